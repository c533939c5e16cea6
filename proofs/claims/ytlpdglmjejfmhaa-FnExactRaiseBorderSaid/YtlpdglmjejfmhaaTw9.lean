/-
  RaiseBorder of both sides. (Made by mktw9.py.)
-/
import Derived.Test.YtlpdglmjejfmhaaTw8
import Derived.Test.YtlpdglmjejfmhaaRight1
namespace Go.Proofs.Ytlpdglmjejfmhaa
open Go.RowKit
set_option maxRecDepth 100000

theorem over_get {l r : List Nat} {off : Nat} (h : off + r.length ≤ l.length) (j : Nat) : (over l off r)[j]?.getD 0 = if off ≤ j ∧ j < off + r.length then r[j - off]?.getD 0 else l[j]?.getD 0 := by
  unfold over
  have ht : (l.take off).length = off := by rw [List.length_take]; omega
  by_cases h1 : j < off
  · rw [if_neg (by omega), List.append_assoc, List.getElem?_append_left (by omega), List.getElem?_take, if_pos h1]
  · by_cases h2 : j < off + r.length
    · rw [if_pos ⟨by omega, h2⟩, List.append_assoc, List.getElem?_append_right (by omega), ht, List.getElem?_append_left (by omega)]
    · rw [if_neg (by omega), List.getElem?_append_right (by simp only [List.length_append, ht]; omega), List.length_append, ht, List.getElem?_drop, show off + r.length + (j - (off + r.length)) = j by omega]
theorem over4 (q : List Nat) (h : q.length = 36) : over (over (over (over (List.replicate 36 0) 0 (segm q 0 9)) 9 (segm q 9 9)) 18 (segm q 18 9)) 27 (segm q 27 9) = q := by
  have s0 : (segm q 0 9).length = 9 := segm_len (by omega)
  have s1 : (segm q 9 9).length = 9 := segm_len (by omega)
  have s2 : (segm q 18 9).length = 9 := segm_len (by omega)
  have s3 : (segm q 27 9).length = 9 := segm_len (by omega)
  have l0 : (List.replicate 36 0).length = 36 := by simp
  have l1 : (over (List.replicate 36 0) 0 (segm q 0 9)).length = 36 := by rw [over_length (by omega), l0]
  have l2 : (over (over (List.replicate 36 0) 0 (segm q 0 9)) 9 (segm q 9 9)).length = 36 := by rw [over_length (by omega), l1]
  have l3 : (over (over (over (List.replicate 36 0) 0 (segm q 0 9)) 9 (segm q 9 9)) 18 (segm q 18 9)).length = 36 := by rw [over_length (by omega), l2]
  have l4 : (over (over (over (over (List.replicate 36 0) 0 (segm q 0 9)) 9 (segm q 9 9)) 18 (segm q 18 9)) 27 (segm q 27 9)).length = 36 := by rw [over_length (by omega), l3]
  refine eq_of_getD l4 h fun j hj => ?_
  rw [over_get (by omega), over_get (by omega), over_get (by omega), over_get (by omega), s0, s1, s2, s3]
  by_cases h3 : 27 ≤ j
  · rw [if_pos (by omega), segm_nth _ _ _ _ (by omega), show 27 + (j - 27) = j by omega]
  · rw [if_neg (by omega)]
    by_cases h2 : 18 ≤ j
    · rw [if_pos (by omega), segm_nth _ _ _ _ (by omega), show 18 + (j - 18) = j by omega]
    · rw [if_neg (by omega)]
      by_cases h1 : 9 ≤ j
      · rw [if_pos (by omega), segm_nth _ _ _ _ (by omega), show 9 + (j - 9) = j by omega]
      · rw [if_neg (by omega), if_pos (by omega), segm_nth _ _ _ _ (by omega), show 0 + (j - 0) = j by omega]
theorem exec_parts4 {o : Oper} {a : Act} {w : World} (x y z u : Operand) (ho : o.op = .build 75 #[(0, x), (1, y), (2, z), (3, u)]) (q : List Nat) (hq : q.length = 36) (hx : a.eval x = .agg (u8s (segm q 0 9))) (hy : a.eval y = .agg (u8s (segm q 9 9))) (hz : a.eval z = .agg (u8s (segm q 18 9))) (hu : a.eval u = .agg (u8s (segm q 27 9))) :
    (execOp a.eval o).run Try.prog w = .ok (.value (.agg (u8s q))) w := by
  have s0 : (segm q 0 9).length = 9 := segm_len (by omega)
  have s1 : (segm q 9 9).length = 9 := segm_len (by omega)
  have s2 : (segm q 18 9).length = 9 := segm_len (by omega)
  have s3 : (segm q 27 9).length = 9 := segm_len (by omega)
  have l0 : (List.replicate 36 0).length = 36 := by simp
  have l1 : (over (List.replicate 36 0) 0 (segm q 0 9)).length = 36 := by rw [over_length (by omega), l0]
  have l2 : (over (over (List.replicate 36 0) 0 (segm q 0 9)) 9 (segm q 9 9)).length = 36 := by rw [over_length (by omega), l1]
  have l3 : (over (over (over (List.replicate 36 0) 0 (segm q 0 9)) 9 (segm q 9 9)) 18 (segm q 18 9)).length = 36 := by rw [over_length (by omega), l2]
  obtain ⟨ie, hie, hse⟩ := Option.map_eq_some_iff.1 (show (Try.prog.info? 71).map (·.size) = some 9 by kernel_rfl)
  obtain ⟨it, hit, hzt⟩ := Option.map_eq_some_iff.1 (show (Try.prog.info? 75).map (·.zero) = some (some (.agg (u8s (List.replicate 36 0)))) by kernel_rfl)
  have hb : Try.prog.built 75 [(0, .agg (u8s (segm q 0 9))), (1, .agg (u8s (segm q 9 9))), (2, .agg (u8s (segm q 18 9))), (3, .agg (u8s (segm q 27 9)))] = some (u8s q) := by
    unfold Program.built
    simp only [hit, Try.underlying75, hzt, hie, hse, Value.cells]
    rw [fill_u8s _ _ _ 0 0 9 _ rfl s0 (by omega), fill_u8s _ _ _ 1 9 9 _ rfl s1 (by omega), fill_u8s _ _ _ 2 18 9 _ rfl s2 (by omega), fill_u8s _ _ _ 3 27 9 _ rfl s3 (by omega), over4 q hq]
    rfl
  unfold execOp
  have := run_build (P := Try.prog) w 75 #[(0, .agg (u8s (segm q 0 9))), (1, .agg (u8s (segm q 9 9))), (2, .agg (u8s (segm q 18 9))), (3, .agg (u8s (segm q 27 9)))] _ hb
  simp [ho, hx, hy, hz, hu, this]
theorem exec_neqF {o : Oper} {a : Act} {w : World} (x y : Operand) (t' : TypeId) (ho : o.op = .binOp .neq 71 x y t') (f g : List Nat) (hx : a.eval x = .agg (u8s f)) (hy : a.eval y = .agg (u8s g)) (hf : f.length = 9) (hg : g.length = 9) (b : Bool) (hb : (!(f == g)) = b) :
    (execOp a.eval o).run Try.prog w = .ok (.value (.bool b)) w := by
  have hm : Try.prog.eqGuardType Try.prog.depth 71 = false := by kernel_rfl
  have h1 := run_equalIn_u8s (P := Try.prog) w 9998 71 5 9 Try.underlying71 Try.underlying5 (by kernel_rfl) f g hf hg
  unfold execOp
  subst hb
  simp [ho, hx, hy, Sem.run_bind, run_eqGuard_agg w .neq _ x y _ _ hm, run_neq_struct, h1]
theorem serOf_parts (s : List Nat) (hs : s.length = 36) : serOf (partsL s) = s := by
  refine eq_of_getD (serOf_len _) hs fun j hj => ?_
  have h1 : j % 4 * 9 + j / 4 < 36 := by omega
  simp only [serOf, partsL, List.getElem?_map, List.getElem?_range hj, List.getElem?_range h1, Option.map_some, Option.getD_some]
  rw [show (j % 4 * 9 + j / 4) % 9 * 4 + (j % 4 * 9 + j / 4) / 9 = j by omega]
def upQ (s : List Nat) : List Nat := (List.range 36).map fun j => if j < 9 then 0 else (partsL s)[j - 9]?.getD 0
theorem upQ_len (s : List Nat) : (upQ s).length = 36 := by simp [upQ]
theorem partsL_bytes {s : List Nat} (h : Bytes 36 s) : Bytes 36 (partsL s) := ⟨partsL_len s, fun n hn => by
  obtain ⟨j, _, rfl⟩ := List.mem_map.1 hn
  exact h.lt _⟩
theorem upQ_bytes {s : List Nat} (h : Bytes 36 s) : Bytes 36 (upQ s) := ⟨upQ_len s, fun n hn => by
  obtain ⟨j, _, rfl⟩ := List.mem_map.1 hn
  split
  · omega
  · exact (partsL_bytes h).lt _⟩
theorem serOf_upQ (s : List Nat) : serOf (upQ s) = upS s := by
  unfold serOf upS
  apply List.map_congr_left
  intro j hj
  have hj := List.mem_range.1 hj
  have h1 : j % 4 * 9 + j / 4 < 36 := by omega
  simp only [upQ, List.getElem?_map, List.getElem?_range h1, Option.map_some, Option.getD_some]
  by_cases h : j % 4 = 0
  · rw [if_pos h, if_pos (by omega)]
  · have h2 : j % 4 * 9 + j / 4 - 9 < 36 := by omega
    rw [if_neg h, if_neg (by omega)]
    simp only [partsL, List.getElem?_map, List.getElem?_range h2, Option.map_some, Option.getD_some]
    rw [show (j % 4 * 9 + j / 4 - 9) % 9 * 4 + (j % 4 * 9 + j / 4 - 9) / 9 = j - 1 by omega]
theorem upQ_seg (s : List Nat) (i : Nat) (hi : i < 3) : segm (upQ s) (9 + i * 9) 9 = partL s i := by
  refine eq_of_getD (segm_len (by rw [upQ_len]; omega)) (partL_len s i) fun j hj => ?_
  have h1 : 9 + i * 9 + j < 36 := by omega
  rw [segm_nth _ _ _ _ hj, ← partsL_seg s i (by omega), segm_nth _ _ _ _ hj]
  simp only [upQ, List.getElem?_map, List.getElem?_range h1, Option.map_some, Option.getD_some]
  rw [if_neg (by omega), show 9 + i * 9 + j - 9 = i * 9 + j by omega]
theorem upQ_seg0 (s : List Nat) : segm (upQ s) 0 9 = List.replicate 9 0 := by
  refine eq_of_getD (segm_len (by rw [upQ_len]; omega)) (by simp) fun j hj => ?_
  have h1 : 0 + j < 36 := by omega
  rw [segm_nth _ _ _ _ hj]
  simp only [upQ, List.getElem?_map, List.getElem?_range h1, Option.map_some, Option.getD_some]
  rw [if_pos (by omega), List.getElem?_replicate, if_pos hj]
  rfl
/-- One of the series raised. -/
def raiG (a b : Nat) (s : List Nat) : List Nat := if b = a then upS s else s
def raiQ (a b : Nat) (s : List Nat) : List Nat := if b = a then upQ s else partsL s
def upT (a : Nat) (t : List Nat) : List Nat := mapT (raiG a) t
theorem raiG_ok (a : Nat) : ∀ b s, b < 3 → Bytes 36 s → Bytes 36 (raiG a b s) := fun b s _ hs => by
  unfold raiG
  split
  · exact upS_bytes hs
  · exact hs
theorem raiQ_ok (a : Nat) : ∀ b s, b < 3 → Bytes 36 s → Bytes 36 (raiQ a b s) ∧ serOf (raiQ a b s) = raiG a b s := fun b s _ hs => by
  unfold raiQ raiG
  split
  · exact ⟨upQ_bytes hs, serOf_upQ s⟩
  · exact ⟨partsL_bytes hs, serOf_parts s hs.len⟩
theorem upT_bytes {a : Nat} {t : List Nat} (ht : Bytes 108 t) : Bytes 108 (upT a t) := mapT_bytes ht (raiG_ok a)
theorem over_upT {t : List Nat} {a : Nat} (ht : Bytes 108 t) (ha : a < 3) : over t (a * 36) (upS (segm t (a * 36) 36)) = upT a t := by
  have b0 : (segm t 0 36).length = 36 := segm_len (by rw [ht.len]; omega)
  have b1 : (segm t 36 36).length = 36 := segm_len (by rw [ht.len]; omega)
  have b2 : (segm t 72 36).length = 36 := segm_len (by rw [ht.len]; omega)
  obtain rfl | rfl | rfl : a = 0 ∨ a = 1 ∨ a = 2 := by omega
  · have h := over_catA (A := segm t 0 36) (B := segm t 36 36) (C := segm t 72 36) (X := upS (segm t 0 36)) b0 (upS_len _)
    rw [catT_eq t ht.len] at h
    simpa [upT, mapT, raiG] using h
  · have h := over_catB (A := segm t 0 36) (B := segm t 36 36) (C := segm t 72 36) (X := upS (segm t 36 36)) b0 b1 (upS_len _)
    rw [catT_eq t ht.len] at h
    simpa [upT, mapT, raiG] using h
  · have h := over_catC (A := segm t 0 36) (B := segm t 36 36) (C := segm t 72 36) (X := upS (segm t 72 36)) b0 b1 b2 (upS_len _)
    rw [catT_eq t ht.len] at h
    simpa [upT, mapT, raiG] using h
def topT (a : Nat) (t : List Nat) : Bool := topS (segm t (a * 36) 36)
def raiCode (p n m k : Int) (ts : List (List Nat)) (x : Int) : Int := if borderB p n m k ts = true then (if (decide (0 ≤ x) && decide (x ≤ 2)) = true then (if ts.any (topT x.toNat) = true then 3 else 0) else 2) else 1
theorem any_take_step {α : Type} {f : α → Bool} {xs : List α} {i : Nat} (hi : i < xs.length) (h : (xs.take i).any f = false) (h1 : f xs[i] = false) : (xs.take (i + 1)).any f = false := by
  rw [List.take_add_one, List.getElem?_eq_getElem hi, List.any_append, h]
  simp [h1]
theorem any_at {α : Type} {f : α → Bool} {xs : List α} {i : Nat} (hi : i < xs.length) (h1 : f xs[i] = true) : xs.any f = true := by
  rw [List.any_eq_true]
  exact ⟨_, List.getElem_mem hi, h1⟩
attribute [local irreducible] wpList
theorem exec_load_partL {o : Oper} {a : Act} {w : World} (ty : TypeId) (x : Operand) (ho : o.op = .load ty x) (g i : Nat) (hx : a.eval x = .pointer (some ⟨g, i * 9, none⟩)) (t : TypeId) (s : List Nat) (hg : At w g (.cells (u8s (partsL s)) t (0, 0))) (hty : ty = 71) (hi : i < 4) :
    (execOp a.eval o).run Try.prog w = .ok (.value (.agg (u8s (partL s i)))) w := by
  subst hty
  have h := exec_load_seg (P := Try.prog) (w := w) 71 x ho g (i * 9) hx t (partsL s) _ 9 hg Try.underlying71 rfl (by kernel_rfl) (by rw [partsL_len]; omega) (partL s i) (partsL_seg s i hi)
  exact h
set_option maxHeartbeats 4000000 in
theorem raise1_eq (a b g : Nat) (s : List Nat) (hs : Bytes 36 s) (w : World) (hx : At w g (.cells #[.int .i64 (a : Nat)] 2 (0, 0))) (hne : ((b : Int) != (a : Int)) = false) :
    Calls Try.prog 55 #[.int .i64 (b : Nat), .agg (u8s (partsL s)), .pointer (some ⟨g, 0, none⟩)] w (fun e w' => e = .returned (.agg (u8s (raiQ a b s))) ∧ Below w.heap.size w w') := by
  have hB := Below.refl w.heap.size w
  have _u0 := hs
  clear _u0
  have Hne := Lib.hid hne
  clear hne
  go_enter Try.func55, Try.ntmps55
  go_upto_region 0 with (fail)
  refine wp_region_lit ?_
  refine ls_op rfl (fun K' hK' => ?_)
  have lz1 := hB.size
  have lz2 := hx.lt
  refine wp_new (some 4) rfl (exec_box 75 _ rfl (u8s (partsL s)) rfl) (fun Wz3 nnz4 => ?_)
  have bz5 := nnz4.below (Below.refl _ _) (Nat.le_refl _)
  replace hB := below_after hB bz5
  replace hx := hx.after bz5
  have hz6 : At Wz3 w.heap.size (.cells (u8s (partsL s)) 75 (0, 0)) := nnz4.at_
  refine hK' _ _ ?_
  clear hK' K' nnz4 bz5
  go_frame
  refine ls_op rfl (fun K' hK' => ?_)
  have lz7 := hB.size
  have lz8 := hx.lt
  have lz9 := hz6.lt
  refine wp_new (some 5) rfl (al_impl_parts rfl) (fun Wz10 nnz11 => ?_)
  have bz12 := nnz11.below (Below.refl _ _) (Nat.le_refl _)
  replace hB := below_after hB bz12
  replace hx := hx.after bz12
  replace hz6 := hz6.after bz12
  have hz13 : At Wz10 Wz3.heap.size (.cells (u8s (List.replicate 36 0)) 75 (0, 0)) := nnz11.at_
  refine hK' _ _ ?_
  clear hK' K' nnz11 bz12
  go_frame
  refine wpList_nil ?_
  go_upto_region 1 with (fail)
  refine wp_region_lit ?_
  refine ls_ex (some 6) (.int .i64 (b : Nat)) rfl rfl (exec_move _ rfl (.int .i64 (b : Nat)) rfl) ?_
  go_frame
  refine ls_ex (some 7) (.int .i64 (a : Nat)) rfl rfl (exec_load_one 2 _ rfl g 0 rfl (.int .i64 (a : Nat)) _ Try.underlying2 rfl (hx.at_ 0)) ?_
  go_frame
  refine ls_ex (some 8) (.bool false) rfl rfl (exec_neq _ _ _ _ rfl ((b : Nat)) ((a : Nat)) rfl rfl false Hne.out) ?_
  go_frame
  refine wpList_nil ?_
  go_upto_region 3 with (fail)
  refine wp_region_lit ?_
  refine ls_ex (some 10) (.agg (u8s (List.replicate 9 0))) rfl rfl (exec_build_nil 71 rfl _ (by kernel_rfl)) ?_
  go_frame
  refine ls_ex (some 11) (.pointer (some ⟨w.heap.size, 0, none⟩)) rfl rfl (exec_index_arr _ 71 _ _ rfl w.heap.size 0 4 0 9 rfl rfl Try.underlying75 (by kernel_rfl) (by omega)) ?_
  go_frame
  refine ls_ex (some 12) (.agg (u8s (partL s 0))) rfl rfl (exec_load_partL 71 _ rfl w.heap.size 0 rfl _ s hz6 rfl (by omega)) ?_
  go_frame
  refine ls_ex (some 13) (.pointer (some ⟨w.heap.size, 9, none⟩)) rfl rfl (exec_index_arr _ 71 _ _ rfl w.heap.size 0 4 1 9 rfl rfl Try.underlying75 (by kernel_rfl) (by omega)) ?_
  go_frame
  refine ls_ex (some 14) (.agg (u8s (partL s 1))) rfl rfl (exec_load_partL 71 _ rfl w.heap.size 1 rfl _ s hz6 rfl (by omega)) ?_
  go_frame
  refine ls_ex (some 15) (.pointer (some ⟨w.heap.size, 18, none⟩)) rfl rfl (exec_index_arr _ 71 _ _ rfl w.heap.size 0 4 2 9 rfl rfl Try.underlying75 (by kernel_rfl) (by omega)) ?_
  go_frame
  refine ls_ex (some 16) (.agg (u8s (partL s 2))) rfl rfl (exec_load_partL 71 _ rfl w.heap.size 2 rfl _ s hz6 rfl (by omega)) ?_
  go_frame
  refine ls_ex (some 17) (.agg (u8s (upQ s))) rfl rfl (exec_parts4 _ _ _ _ rfl (upQ s) (upQ_len s) (by rw [upQ_seg0]; rfl) (by rw [upQ_seg s 0 (by omega)]; rfl) (by rw [upQ_seg s 1 (by omega)]; rfl) (by rw [upQ_seg s 2 (by omega)]; rfl)) ?_
  go_frame
  refine ls_op rfl (fun K' hK' => ?_)
  refine wp_store_bytes 75 _ _ rfl rfl Wz3.heap.size rfl (upQ s) rfl _ _ hz13 36 (by kernel_rfl) (upQ_len s) (by simp) (fun Wz14 pz15 => ?_)
  replace hB := pz15.below hB (by omega)
  replace hx := pz15.other hx (by omega)
  replace hz6 := pz15.other hz6 (by omega)
  replace hz13 : At Wz14 Wz3.heap.size (.cells (u8s (upQ s)) 75 (0, 0)) := pz15.at_
  refine hK' _ _ ?_
  clear hK' K' pz15
  refine wpList_nil ?_
  go_wp2_with fail
  refine bodyPost_ret (results_at rfl _ _ Wz3.heap.size _ _ _ rfl hz13 Try.underlying75 rfl 36 (by kernel_rfl) ((u8s_size _).trans (upQ_len s))) rfl ?_
  exact ⟨by unfold raiQ; rw [if_pos (by have h9 := Hne.out; simp at h9; omega)], hB⟩
set_option maxHeartbeats 4000000 in
theorem raise1_ne (a b g : Nat) (s : List Nat) (hs : Bytes 36 s) (w : World) (hx : At w g (.cells #[.int .i64 (a : Nat)] 2 (0, 0))) (hne : ((b : Int) != (a : Int)) = true) :
    Calls Try.prog 55 #[.int .i64 (b : Nat), .agg (u8s (partsL s)), .pointer (some ⟨g, 0, none⟩)] w (fun e w' => e = .returned (.agg (u8s (raiQ a b s))) ∧ Below w.heap.size w w') := by
  have hB := Below.refl w.heap.size w
  have _u0 := hs
  clear _u0
  have Hne := Lib.hid hne
  clear hne
  go_enter Try.func55, Try.ntmps55
  go_upto_region 0 with (fail)
  refine wp_region_lit ?_
  refine ls_op rfl (fun K' hK' => ?_)
  have lz1 := hB.size
  have lz2 := hx.lt
  refine wp_new (some 4) rfl (exec_box 75 _ rfl (u8s (partsL s)) rfl) (fun Wz3 nnz4 => ?_)
  have bz5 := nnz4.below (Below.refl _ _) (Nat.le_refl _)
  replace hB := below_after hB bz5
  replace hx := hx.after bz5
  have hz6 : At Wz3 w.heap.size (.cells (u8s (partsL s)) 75 (0, 0)) := nnz4.at_
  refine hK' _ _ ?_
  clear hK' K' nnz4 bz5
  go_frame
  refine ls_op rfl (fun K' hK' => ?_)
  have lz7 := hB.size
  have lz8 := hx.lt
  have lz9 := hz6.lt
  refine wp_new (some 5) rfl (al_impl_parts rfl) (fun Wz10 nnz11 => ?_)
  have bz12 := nnz11.below (Below.refl _ _) (Nat.le_refl _)
  replace hB := below_after hB bz12
  replace hx := hx.after bz12
  replace hz6 := hz6.after bz12
  have hz13 : At Wz10 Wz3.heap.size (.cells (u8s (List.replicate 36 0)) 75 (0, 0)) := nnz11.at_
  refine hK' _ _ ?_
  clear hK' K' nnz11 bz12
  go_frame
  refine wpList_nil ?_
  go_upto_region 1 with (fail)
  refine wp_region_lit ?_
  refine ls_ex (some 6) (.int .i64 (b : Nat)) rfl rfl (exec_move _ rfl (.int .i64 (b : Nat)) rfl) ?_
  go_frame
  refine ls_ex (some 7) (.int .i64 (a : Nat)) rfl rfl (exec_load_one 2 _ rfl g 0 rfl (.int .i64 (a : Nat)) _ Try.underlying2 rfl (hx.at_ 0)) ?_
  go_frame
  refine ls_ex (some 8) (.bool true) rfl rfl (exec_neq _ _ _ _ rfl ((b : Nat)) ((a : Nat)) rfl rfl true Hne.out) ?_
  go_frame
  refine wpList_nil ?_
  go_upto_region 2 with (fail)
  refine wp_region_lit ?_
  refine ls_ex (some 9) (.agg (u8s (partsL s))) rfl rfl (exec_load_all 75 _ rfl w.heap.size rfl _ _ _ hz6 Try.underlying75 rfl 36 (by kernel_rfl) ((u8s_size _).trans (partsL_len s))) ?_
  go_frame
  refine ls_op rfl (fun K' hK' => ?_)
  refine wp_store_bytes 75 _ _ rfl rfl Wz3.heap.size rfl (partsL s) rfl _ _ hz13 36 (by kernel_rfl) (partsL_len s) (by simp) (fun Wz14 pz15 => ?_)
  replace hB := pz15.below hB (by omega)
  replace hx := pz15.other hx (by omega)
  replace hz6 := pz15.other hz6 (by omega)
  replace hz13 : At Wz14 Wz3.heap.size (.cells (u8s (partsL s)) 75 (0, 0)) := pz15.at_
  refine hK' _ _ ?_
  clear hK' K' pz15
  refine wpList_nil ?_
  go_wp2_with fail
  refine bodyPost_ret (results_at rfl _ _ Wz3.heap.size _ _ _ rfl hz13 Try.underlying75 rfl 36 (by kernel_rfl) ((u8s_size _).trans (partsL_len s))) rfl ?_
  exact ⟨by unfold raiQ; rw [if_neg (by have h9 := Hne.out; simp at h9; omega)], hB⟩
theorem raise1_c (a b g : Nat) (s : List Nat) (hs : Bytes 36 s) (w : World) (hx : At w g (.cells #[.int .i64 (a : Nat)] 2 (0, 0))) : Calls Try.prog 55 (#[.int .i64 (b : Int), .agg (u8s (partsL s))] ++ #[.pointer (some ⟨g, 0, none⟩)]) w (fun e w' => e = .returned (.agg (u8s (raiQ a b s))) ∧ Below w.heap.size w w') := by
  rw [show (#[.int .i64 (b : Int), .agg (u8s (partsL s))] ++ #[.pointer (some ⟨g, 0, none⟩)] : Array Value) = #[.int .i64 (b : Int), .agg (u8s (partsL s)), .pointer (some ⟨g, 0, none⟩)] from rfl]
  cases hne : ((b : Int) != (a : Int)) with
  | false => exact raise1_eq a b g s hs w hx hne
  | true => exact raise1_ne a b g s hs w hx hne
theorem Own.rdc0 {w : World} {lo : Nat} {v : Value} (h : Own w lo v []) : ∃ A c, v = .slice A 0 c ∧ True := by
  rcases h.shp with ⟨rfl, _⟩ | ⟨g, c, rfl⟩
  · exact ⟨none, 0, rfl, trivial⟩
  · exact ⟨_, _, rfl, trivial⟩
theorem l08Of0_c (p n m k : Int) (A : Option Addr) (c : Nat) (w : World) : Calls Try.prog 41 #[.agg #[.int .i64 p, .int .i64 n, .int .i64 m, .int .i64 k, .slice A 0 c]] w (fun e w' => ∃ v, e = .returned (.agg #[.int .i64 p, .int .i64 n, .int .i64 m, .int .i64 k, v]) ∧ OwnT w' w.heap.size v [] ∧ Below w.heap.size w w') :=
  l08Of_c p n m k A c [] w (Rd.none_ w A) (by simp)
set_option maxHeartbeats 4000000 in
theorem specRaise_a (p n m k : Int) (A : Option Addr) (c : Nat) (ts : List (List Nat)) (x : Int) (w : World) (hR : RdT w A ts) (hlen : ts.length ≤ 1048576) (hs : borderB p n m k ts = false) :
    Calls Try.prog 21 #[.agg #[.int .i64 p, .int .i64 n, .int .i64 m, .int .i64 k, .slice A ts.length c], .int .i64 x] w (ResD w (outZ (raiCode p n m k ts x) p) (outZ (raiCode p n m k ts x) n) (outZ (raiCode p n m k ts x) m) (outZ (raiCode p n m k ts x) k) (outL (raiCode p n m k ts x) (ts.map (upT x.toNat))) (raiCode p n m k ts x)) := by
  have hB := Below.refl w.heap.size w
  have HC : Hid (raiCode p n m k ts x = 1) := Lib.hid (by unfold raiCode; rw [hs]; rfl)
  have Hs := Lib.hid hs
  clear hs
  go_enter Try.func21, Try.ntmps21
  go_upto_region 0 with (fail)
  refine wp_region_lit ?_
  refine ls_op rfl (fun K' hK' => ?_)
  have lz1 := hB.size
  refine wp_new (some 2) rfl (exec_box 29 _ rfl (#[.int .i64 p, .int .i64 n, .int .i64 m, .int .i64 k, .slice A ts.length c]) rfl) (fun Wz2 nnz3 => ?_)
  have bz4 := nnz3.below (Below.refl _ _) (Nat.le_refl _)
  replace hB := below_after hB bz4
  have hz5 : At Wz2 w.heap.size (.cells #[.int .i64 p, .int .i64 n, .int .i64 m, .int .i64 k, .slice A ts.length c] 29 (0, 0)) := nnz3.at_
  refine hK' _ _ ?_
  clear hK' K' nnz3 bz4
  go_frame
  refine ls_op rfl (fun K' hK' => ?_)
  have lz6 := hB.size
  have lz7 := hz5.lt
  refine wp_new (some 4) rfl (al_impl_Border rfl) (fun Wz8 nnz9 => ?_)
  have bz10 := nnz9.below (Below.refl _ _) (Nat.le_refl _)
  replace hB := below_after hB bz10
  replace hz5 := hz5.after bz10
  have hz11 : At Wz8 Wz2.heap.size (.cells #[.int .i64 0, .int .i64 0, .int .i64 0, .int .i64 0, .slice none 0 0] 29 (0, 0)) := nnz9.at_
  refine hK' _ _ ?_
  clear hK' K' nnz9 bz10
  go_frame
  refine ls_ex (some 5) (.int .i64 0) rfl rfl (exec_assign _ rfl (.int .i64 0) rfl) ?_
  go_frame
  refine wpList_nil ?_
  go_upto_region 1 with (fail)
  refine wp_region_lit ?_
  refine ls_ex (some 13) (.agg #[.int .i64 p, .int .i64 n, .int .i64 m, .int .i64 k, .slice A ts.length c]) rfl rfl (exec_load_all 29 _ rfl w.heap.size rfl _ _ _ hz5 Try.underlying29 rfl 5 (by kernel_rfl) rfl) ?_
  go_frame
  refine ls_op rfl (fun K' hK' => ?_)
  have lz14 := hB.size
  have lz15 := hz5.lt
  have lz16 := hz11.lt
  refine wp_call1 (some 14) rfl 31 _ _ rfl (fun args w => by kernel_rfl) _ rfl _ (l08Is_c p n m k A c ts _ (hR.keep hB) hlen) (fun e Wz12 h => ?_)
  obtain ⟨rfl, bz13⟩ := h
  replace hB := below_after hB bz13
  replace hz5 := hz5.after bz13
  replace hz11 := hz11.after bz13
  rw [Hs.out]
  clear bz13
  refine ⟨_, rfl, ?_⟩
  refine hK' _ _ ?_
  clear hK' K'
  go_frame
  refine ls_ex (some 15) (.bool true) rfl rfl (exec_not _ _ rfl false rfl) ?_
  go_frame
  refine ls_ex (some 12) (.bool true) rfl rfl (exec_assign _ rfl (.bool true) rfl) ?_
  go_frame
  refine wpList_nil ?_
  go_upto_region 2 with (fail)
  refine wp_region_lit ?_
  refine ls_ex (some 16) (.agg #[.int .i64 0, .int .i64 0, .int .i64 0, .int .i64 0, .slice none 0 0]) rfl rfl (exec_build_nil 29 rfl _ (by kernel_rfl)) ?_
  go_frame
  refine ls_op rfl (fun K' hK' => ?_)
  refine wp_store_all 29 _ _ rfl rfl Wz2.heap.size rfl #[.int .i64 0, .int .i64 0, .int .i64 0, .int .i64 0, .slice none 0 0] rfl _ _ hz11 5 (by kernel_rfl) rfl rfl (one5 _ _ _ _ _ _ _) (fun Wz17 pz18 => ?_)
  replace hB := pz18.below hB (by omega)
  replace hz5 := pz18.other hz5 (by omega)
  replace hz11 : At Wz17 Wz2.heap.size (.cells #[.int .i64 0, .int .i64 0, .int .i64 0, .int .i64 0, .slice none 0 0] 29 (0, 0)) := pz18.at_
  refine hK' _ _ ?_
  clear hK' K' pz18
  refine ls_ex (some 5) (.int .i64 1) rfl rfl (exec_assign _ rfl (.int .i64 1) rfl) ?_
  go_frame
  refine wpList_nil ?_
  go_wp2_with fail
  refine bodyPost_ret (results_at2 rfl _ _ Wz2.heap.size _ _ _ rfl _ rfl hz11 Try.underlying29 rfl 5 (by kernel_rfl) rfl) rfl ?_
  unfold ResD outZ outL
  rw [HC.out]
  exact ⟨_, rfl, OwnT.nil _ _, hB⟩
set_option maxHeartbeats 4000000 in
theorem specRaise_b (p n m k : Int) (A : Option Addr) (c : Nat) (ts : List (List Nat)) (x : Int) (w : World) (hR : RdT w A ts) (hlen : ts.length ≤ 1048576) (hs : borderB p n m k ts = true) (hin : (decide (0 ≤ x) && decide (x ≤ 2)) = false) :
    Calls Try.prog 21 #[.agg #[.int .i64 p, .int .i64 n, .int .i64 m, .int .i64 k, .slice A ts.length c], .int .i64 x] w (ResD w (outZ (raiCode p n m k ts x) p) (outZ (raiCode p n m k ts x) n) (outZ (raiCode p n m k ts x) m) (outZ (raiCode p n m k ts x) k) (outL (raiCode p n m k ts x) (ts.map (upT x.toNat))) (raiCode p n m k ts x)) := by
  have hB := Below.refl w.heap.size w
  have HC : Hid (raiCode p n m k ts x = 2) := Lib.hid (by unfold raiCode; rw [hs, hin]; rfl)
  have Hs := Lib.hid hs
  have Hin := Lib.hid hin
  have Hin3 : Hid (inB x 3 = false) := Lib.hid (by rw [← hin]; unfold inB; rw [show decide (x < 3) = decide (x ≤ 2) from decide_eq_decide.2 (by omega)])
  clear hs hin
  go_enter Try.func21, Try.ntmps21
  go_upto_region 0 with (fail)
  refine wp_region_lit ?_
  refine ls_op rfl (fun K' hK' => ?_)
  have lz1 := hB.size
  refine wp_new (some 2) rfl (exec_box 29 _ rfl (#[.int .i64 p, .int .i64 n, .int .i64 m, .int .i64 k, .slice A ts.length c]) rfl) (fun Wz2 nnz3 => ?_)
  have bz4 := nnz3.below (Below.refl _ _) (Nat.le_refl _)
  replace hB := below_after hB bz4
  have hz5 : At Wz2 w.heap.size (.cells #[.int .i64 p, .int .i64 n, .int .i64 m, .int .i64 k, .slice A ts.length c] 29 (0, 0)) := nnz3.at_
  refine hK' _ _ ?_
  clear hK' K' nnz3 bz4
  go_frame
  refine ls_op rfl (fun K' hK' => ?_)
  have lz6 := hB.size
  have lz7 := hz5.lt
  refine wp_new (some 4) rfl (al_impl_Border rfl) (fun Wz8 nnz9 => ?_)
  have bz10 := nnz9.below (Below.refl _ _) (Nat.le_refl _)
  replace hB := below_after hB bz10
  replace hz5 := hz5.after bz10
  have hz11 : At Wz8 Wz2.heap.size (.cells #[.int .i64 0, .int .i64 0, .int .i64 0, .int .i64 0, .slice none 0 0] 29 (0, 0)) := nnz9.at_
  refine hK' _ _ ?_
  clear hK' K' nnz9 bz10
  go_frame
  refine ls_ex (some 5) (.int .i64 0) rfl rfl (exec_assign _ rfl (.int .i64 0) rfl) ?_
  go_frame
  refine wpList_nil ?_
  go_upto_region 1 with (fail)
  refine wp_region_lit ?_
  refine ls_ex (some 13) (.agg #[.int .i64 p, .int .i64 n, .int .i64 m, .int .i64 k, .slice A ts.length c]) rfl rfl (exec_load_all 29 _ rfl w.heap.size rfl _ _ _ hz5 Try.underlying29 rfl 5 (by kernel_rfl) rfl) ?_
  go_frame
  refine ls_op rfl (fun K' hK' => ?_)
  have lz14 := hB.size
  have lz15 := hz5.lt
  have lz16 := hz11.lt
  refine wp_call1 (some 14) rfl 31 _ _ rfl (fun args w => by kernel_rfl) _ rfl _ (l08Is_c p n m k A c ts _ (hR.keep hB) hlen) (fun e Wz12 h => ?_)
  obtain ⟨rfl, bz13⟩ := h
  replace hB := below_after hB bz13
  replace hz5 := hz5.after bz13
  replace hz11 := hz11.after bz13
  rw [Hs.out]
  clear bz13
  refine ⟨_, rfl, ?_⟩
  refine hK' _ _ ?_
  clear hK' K'
  go_frame
  refine ls_ex (some 15) (.bool false) rfl rfl (exec_not _ _ rfl true rfl) ?_
  go_frame
  refine ls_ex (some 12) (.bool false) rfl rfl (exec_assign _ rfl (.bool false) rfl) ?_
  go_frame
  refine wpList_nil ?_
  go_upto_region 3 with (fail)
  refine wp_region_lit ?_
  refine ls_ex (some 18) (.int .i64 x) rfl rfl (exec_move _ rfl (.int .i64 x) rfl) ?_
  go_frame
  refine ls_op rfl (fun K' hK' => ?_)
  have lz19 := hB.size
  have lz20 := hz5.lt
  have lz21 := hz11.lt
  refine wp_call3 (some 19) rfl 48 _ _ _ _ rfl (fun args w => by kernel_rfl) _ _ _ rfl rfl rfl _ (l01In_c x 0 2 _) (fun e Wz17 h => ?_)
  obtain ⟨rfl, rfl⟩ := h
  rw [Hin.out]
  refine ⟨_, rfl, ?_⟩
  refine hK' _ _ ?_
  clear hK' K'
  go_frame
  refine ls_ex (some 20) (.bool true) rfl rfl (exec_not _ _ rfl false rfl) ?_
  go_frame
  refine ls_ex (some 17) (.bool true) rfl rfl (exec_assign _ rfl (.bool true) rfl) ?_
  go_frame
  refine wpList_nil ?_
  go_upto_region 4 with (fail)
  refine wp_region_lit ?_
  refine ls_ex (some 21) (.agg #[.int .i64 0, .int .i64 0, .int .i64 0, .int .i64 0, .slice none 0 0]) rfl rfl (exec_build_nil 29 rfl _ (by kernel_rfl)) ?_
  go_frame
  refine ls_op rfl (fun K' hK' => ?_)
  refine wp_store_all 29 _ _ rfl rfl Wz2.heap.size rfl #[.int .i64 0, .int .i64 0, .int .i64 0, .int .i64 0, .slice none 0 0] rfl _ _ hz11 5 (by kernel_rfl) rfl rfl (one5 _ _ _ _ _ _ _) (fun Wz22 pz23 => ?_)
  replace hB := pz23.below hB (by omega)
  replace hz5 := pz23.other hz5 (by omega)
  replace hz11 : At Wz22 Wz2.heap.size (.cells #[.int .i64 0, .int .i64 0, .int .i64 0, .int .i64 0, .slice none 0 0] 29 (0, 0)) := pz23.at_
  refine hK' _ _ ?_
  clear hK' K' pz23
  refine ls_ex (some 5) (.int .i64 2) rfl rfl (exec_assign _ rfl (.int .i64 2) rfl) ?_
  go_frame
  refine wpList_nil ?_
  go_wp2_with fail
  refine bodyPost_ret (results_at2 rfl _ _ Wz2.heap.size _ _ _ rfl _ rfl hz11 Try.underlying29 rfl 5 (by kernel_rfl) rfl) rfl ?_
  unfold ResD outZ outL
  rw [HC.out]
  exact ⟨_, rfl, OwnT.nil _ _, hB⟩
set_option maxHeartbeats 4000000 in
theorem implRaise_a (p n m k : Int) (A : Option Addr) (c : Nat) (ts : List (List Nat)) (x : Int) (w : World) (hR : RdT w A ts) (hlen : ts.length ≤ 1048576) (hs : borderB p n m k ts = false) :
    Calls Try.prog 22 #[.agg #[.int .i64 p, .int .i64 n, .int .i64 m, .int .i64 k, .slice A ts.length c], .int .i64 x] w (ResD w (outZ (raiCode p n m k ts x) p) (outZ (raiCode p n m k ts x) n) (outZ (raiCode p n m k ts x) m) (outZ (raiCode p n m k ts x) k) (outL (raiCode p n m k ts x) (ts.map (upT x.toNat))) (raiCode p n m k ts x)) := by
  have hB := Below.refl w.heap.size w
  have HC : Hid (raiCode p n m k ts x = 1) := Lib.hid (by unfold raiCode; rw [hs]; rfl)
  have Hs := Lib.hid hs
  clear hs
  go_enter Try.func22, Try.ntmps22
  go_upto_region 0 with (fail)
  refine wp_region_lit ?_
  refine ls_op rfl (fun K' hK' => ?_)
  have lz1 := hB.size
  refine wp_new (some 2) rfl (exec_box 29 _ rfl (#[.int .i64 p, .int .i64 n, .int .i64 m, .int .i64 k, .slice A ts.length c]) rfl) (fun Wz2 nnz3 => ?_)
  have bz4 := nnz3.below (Below.refl _ _) (Nat.le_refl _)
  replace hB := below_after hB bz4
  have hz5 : At Wz2 w.heap.size (.cells #[.int .i64 p, .int .i64 n, .int .i64 m, .int .i64 k, .slice A ts.length c] 29 (0, 0)) := nnz3.at_
  refine hK' _ _ ?_
  clear hK' K' nnz3 bz4
  go_frame
  refine ls_op rfl (fun K' hK' => ?_)
  have lz6 := hB.size
  have lz7 := hz5.lt
  refine wp_new (some 3) rfl (exec_box 2 _ rfl (#[.int .i64 x]) rfl) (fun Wz8 nnz9 => ?_)
  have bz10 := nnz9.below (Below.refl _ _) (Nat.le_refl _)
  replace hB := below_after hB bz10
  replace hz5 := hz5.after bz10
  have hz11 : At Wz8 Wz2.heap.size (.cells #[.int .i64 x] 2 (0, 0)) := nnz9.at_
  refine hK' _ _ ?_
  clear hK' K' nnz9 bz10
  go_frame
  refine ls_op rfl (fun K' hK' => ?_)
  have lz12 := hB.size
  have lz13 := hz5.lt
  have lz14 := hz11.lt
  refine wp_new (some 4) rfl (al_impl_Border rfl) (fun Wz15 nnz16 => ?_)
  have bz17 := nnz16.below (Below.refl _ _) (Nat.le_refl _)
  replace hB := below_after hB bz17
  replace hz5 := hz5.after bz17
  replace hz11 := hz11.after bz17
  have hz18 : At Wz15 Wz8.heap.size (.cells #[.int .i64 0, .int .i64 0, .int .i64 0, .int .i64 0, .slice none 0 0] 29 (0, 0)) := nnz16.at_
  refine hK' _ _ ?_
  clear hK' K' nnz16 bz17
  go_frame
  refine ls_ex (some 5) (.int .i64 0) rfl rfl (exec_assign _ rfl (.int .i64 0) rfl) ?_
  go_frame
  refine wpList_nil ?_
  go_upto_region 1 with (fail)
  refine wp_region_lit ?_
  refine ls_ex (some 8) (.agg #[.int .i64 p, .int .i64 n, .int .i64 m, .int .i64 k, .slice A ts.length c]) rfl rfl (exec_load_all 29 _ rfl w.heap.size rfl _ _ _ hz5 Try.underlying29 rfl 5 (by kernel_rfl) rfl) ?_
  go_frame
  refine ls_op rfl (fun K' hK' => ?_)
  have lz21 := hB.size
  have lz22 := hz5.lt
  have lz23 := hz11.lt
  have lz24 := hz18.lt
  refine wp_call1 (some 9) rfl 11 _ _ rfl (fun args w => by kernel_rfl) _ rfl _ (implIsBorder_c p n m k A c ts _ (hR.keep hB) hlen) (fun e Wz19 h => ?_)
  obtain ⟨rfl, bz20⟩ := h
  replace hB := below_after hB bz20
  replace hz5 := hz5.after bz20
  replace hz11 := hz11.after bz20
  replace hz18 := hz18.after bz20
  rw [Hs.out]
  clear bz20
  refine ⟨_, rfl, ?_⟩
  refine hK' _ _ ?_
  clear hK' K'
  go_frame
  refine ls_ex (some 10) (.bool true) rfl rfl (exec_not _ _ rfl false rfl) ?_
  go_frame
  refine wpList_nil ?_
  go_upto_region 2 with (fail)
  refine wp_region_lit ?_
  refine ls_ex (some 11) (.agg #[.int .i64 0, .int .i64 0, .int .i64 0, .int .i64 0, .slice none 0 0]) rfl rfl (exec_build_nil 29 rfl _ (by kernel_rfl)) ?_
  go_frame
  refine ls_op rfl (fun K' hK' => ?_)
  refine wp_store_all 29 _ _ rfl rfl Wz8.heap.size rfl #[.int .i64 0, .int .i64 0, .int .i64 0, .int .i64 0, .slice none 0 0] rfl _ _ hz18 5 (by kernel_rfl) rfl rfl (one5 _ _ _ _ _ _ _) (fun Wz25 pz26 => ?_)
  replace hB := pz26.below hB (by omega)
  replace hz5 := pz26.other hz5 (by omega)
  replace hz11 := pz26.other hz11 (by omega)
  replace hz18 : At Wz25 Wz8.heap.size (.cells #[.int .i64 0, .int .i64 0, .int .i64 0, .int .i64 0, .slice none 0 0] 29 (0, 0)) := pz26.at_
  refine hK' _ _ ?_
  clear hK' K' pz26
  refine ls_ex (some 5) (.int .i64 1) rfl rfl (exec_assign _ rfl (.int .i64 1) rfl) ?_
  go_frame
  refine wpList_nil ?_
  go_wp2_with fail
  refine bodyPost_ret (results_at2 rfl _ _ Wz8.heap.size _ _ _ rfl _ rfl hz18 Try.underlying29 rfl 5 (by kernel_rfl) rfl) rfl ?_
  unfold ResD outZ outL
  rw [HC.out]
  exact ⟨_, rfl, OwnT.nil _ _, hB⟩
set_option maxHeartbeats 4000000 in
theorem implRaise_b (p n m k : Int) (A : Option Addr) (c : Nat) (ts : List (List Nat)) (x : Int) (w : World) (hR : RdT w A ts) (hlen : ts.length ≤ 1048576) (hs : borderB p n m k ts = true) (hin : (decide (0 ≤ x) && decide (x ≤ 2)) = false) :
    Calls Try.prog 22 #[.agg #[.int .i64 p, .int .i64 n, .int .i64 m, .int .i64 k, .slice A ts.length c], .int .i64 x] w (ResD w (outZ (raiCode p n m k ts x) p) (outZ (raiCode p n m k ts x) n) (outZ (raiCode p n m k ts x) m) (outZ (raiCode p n m k ts x) k) (outL (raiCode p n m k ts x) (ts.map (upT x.toNat))) (raiCode p n m k ts x)) := by
  have hB := Below.refl w.heap.size w
  have HC : Hid (raiCode p n m k ts x = 2) := Lib.hid (by unfold raiCode; rw [hs, hin]; rfl)
  have Hs := Lib.hid hs
  have Hin := Lib.hid hin
  have Hin3 : Hid (inB x 3 = false) := Lib.hid (by rw [← hin]; unfold inB; rw [show decide (x < 3) = decide (x ≤ 2) from decide_eq_decide.2 (by omega)])
  clear hs hin
  go_enter Try.func22, Try.ntmps22
  go_upto_region 0 with (fail)
  refine wp_region_lit ?_
  refine ls_op rfl (fun K' hK' => ?_)
  have lz1 := hB.size
  refine wp_new (some 2) rfl (exec_box 29 _ rfl (#[.int .i64 p, .int .i64 n, .int .i64 m, .int .i64 k, .slice A ts.length c]) rfl) (fun Wz2 nnz3 => ?_)
  have bz4 := nnz3.below (Below.refl _ _) (Nat.le_refl _)
  replace hB := below_after hB bz4
  have hz5 : At Wz2 w.heap.size (.cells #[.int .i64 p, .int .i64 n, .int .i64 m, .int .i64 k, .slice A ts.length c] 29 (0, 0)) := nnz3.at_
  refine hK' _ _ ?_
  clear hK' K' nnz3 bz4
  go_frame
  refine ls_op rfl (fun K' hK' => ?_)
  have lz6 := hB.size
  have lz7 := hz5.lt
  refine wp_new (some 3) rfl (exec_box 2 _ rfl (#[.int .i64 x]) rfl) (fun Wz8 nnz9 => ?_)
  have bz10 := nnz9.below (Below.refl _ _) (Nat.le_refl _)
  replace hB := below_after hB bz10
  replace hz5 := hz5.after bz10
  have hz11 : At Wz8 Wz2.heap.size (.cells #[.int .i64 x] 2 (0, 0)) := nnz9.at_
  refine hK' _ _ ?_
  clear hK' K' nnz9 bz10
  go_frame
  refine ls_op rfl (fun K' hK' => ?_)
  have lz12 := hB.size
  have lz13 := hz5.lt
  have lz14 := hz11.lt
  refine wp_new (some 4) rfl (al_impl_Border rfl) (fun Wz15 nnz16 => ?_)
  have bz17 := nnz16.below (Below.refl _ _) (Nat.le_refl _)
  replace hB := below_after hB bz17
  replace hz5 := hz5.after bz17
  replace hz11 := hz11.after bz17
  have hz18 : At Wz15 Wz8.heap.size (.cells #[.int .i64 0, .int .i64 0, .int .i64 0, .int .i64 0, .slice none 0 0] 29 (0, 0)) := nnz16.at_
  refine hK' _ _ ?_
  clear hK' K' nnz16 bz17
  go_frame
  refine ls_ex (some 5) (.int .i64 0) rfl rfl (exec_assign _ rfl (.int .i64 0) rfl) ?_
  go_frame
  refine wpList_nil ?_
  go_upto_region 1 with (fail)
  refine wp_region_lit ?_
  refine ls_ex (some 8) (.agg #[.int .i64 p, .int .i64 n, .int .i64 m, .int .i64 k, .slice A ts.length c]) rfl rfl (exec_load_all 29 _ rfl w.heap.size rfl _ _ _ hz5 Try.underlying29 rfl 5 (by kernel_rfl) rfl) ?_
  go_frame
  refine ls_op rfl (fun K' hK' => ?_)
  have lz21 := hB.size
  have lz22 := hz5.lt
  have lz23 := hz11.lt
  have lz24 := hz18.lt
  refine wp_call1 (some 9) rfl 11 _ _ rfl (fun args w => by kernel_rfl) _ rfl _ (implIsBorder_c p n m k A c ts _ (hR.keep hB) hlen) (fun e Wz19 h => ?_)
  obtain ⟨rfl, bz20⟩ := h
  replace hB := below_after hB bz20
  replace hz5 := hz5.after bz20
  replace hz11 := hz11.after bz20
  replace hz18 := hz18.after bz20
  rw [Hs.out]
  clear bz20
  refine ⟨_, rfl, ?_⟩
  refine hK' _ _ ?_
  clear hK' K'
  go_frame
  refine ls_ex (some 10) (.bool false) rfl rfl (exec_not _ _ rfl true rfl) ?_
  go_frame
  refine wpList_nil ?_
  go_upto_region 3 with (fail)
  refine wp_region_lit ?_
  refine ls_ex (some 12) (.int .i64 x) rfl rfl (exec_load_one 2 _ rfl Wz2.heap.size 0 rfl (.int .i64 x) _ Try.underlying2 rfl (hz11.at_ 0)) ?_
  go_frame
  refine ls_op rfl (fun K' hK' => ?_)
  have lz27 := hB.size
  have lz28 := hz5.lt
  have lz29 := hz11.lt
  have lz30 := hz18.lt
  refine wp_call2 (some 13) rfl 51 _ _ _ rfl (fun args w => by kernel_rfl) _ _ rfl rfl _ (isIndex_c x 3 _) (fun e Wz25 h => ?_)
  obtain ⟨rfl, rfl⟩ := h
  rw [Hin3.out]
  refine ⟨_, rfl, ?_⟩
  refine hK' _ _ ?_
  clear hK' K'
  go_frame
  refine ls_ex (some 14) (.bool true) rfl rfl (exec_not _ _ rfl false rfl) ?_
  go_frame
  refine wpList_nil ?_
  go_upto_region 4 with (fail)
  refine wp_region_lit ?_
  refine ls_ex (some 15) (.agg #[.int .i64 0, .int .i64 0, .int .i64 0, .int .i64 0, .slice none 0 0]) rfl rfl (exec_build_nil 29 rfl _ (by kernel_rfl)) ?_
  go_frame
  refine ls_op rfl (fun K' hK' => ?_)
  refine wp_store_all 29 _ _ rfl rfl Wz8.heap.size rfl #[.int .i64 0, .int .i64 0, .int .i64 0, .int .i64 0, .slice none 0 0] rfl _ _ hz18 5 (by kernel_rfl) rfl rfl (one5 _ _ _ _ _ _ _) (fun Wz31 pz32 => ?_)
  replace hB := pz32.below hB (by omega)
  replace hz5 := pz32.other hz5 (by omega)
  replace hz11 := pz32.other hz11 (by omega)
  replace hz18 : At Wz31 Wz8.heap.size (.cells #[.int .i64 0, .int .i64 0, .int .i64 0, .int .i64 0, .slice none 0 0] 29 (0, 0)) := pz32.at_
  refine hK' _ _ ?_
  clear hK' K' pz32
  refine ls_ex (some 5) (.int .i64 2) rfl rfl (exec_assign _ rfl (.int .i64 2) rfl) ?_
  go_frame
  refine wpList_nil ?_
  go_wp2_with fail
  refine bodyPost_ret (results_at2 rfl _ _ Wz8.heap.size _ _ _ rfl _ rfl hz18 Try.underlying29 rfl 5 (by kernel_rfl) rfl) rfl ?_
  unfold ResD outZ outL
  rw [HC.out]
  exact ⟨_, rfl, OwnT.nil _ _, hB⟩
set_option maxHeartbeats 12800000 in
theorem specRaise_v (p n m k : Int) (A : Option Addr) (c : Nat) (ts : List (List Nat)) (a : Nat) (w : World) (hR : RdT w A ts) (hlen : ts.length ≤ 1048576) (hs : borderB p n m k ts = true) (ha3 : a < 3) :
    Calls Try.prog 21 #[.agg #[.int .i64 p, .int .i64 n, .int .i64 m, .int .i64 k, .slice A ts.length c], .int .i64 (a : Int)] w (ResD w (outZ (raiCode p n m k ts (a : Int)) p) (outZ (raiCode p n m k ts (a : Int)) n) (outZ (raiCode p n m k ts (a : Int)) m) (outZ (raiCode p n m k ts (a : Int)) k) (outL (raiCode p n m k ts (a : Int)) (ts.map (upT (a : Int).toNat))) (raiCode p n m k ts (a : Int))) := by
  have hB := Below.refl w.heap.size w
  have Hs := Lib.hid hs
  have Hin : Hid ((decide (0 ≤ (a : Int)) && decide ((a : Int) ≤ 2)) = true) := Lib.hid (by rw [decide_eq_true (show (0 : Int) ≤ a by omega), decide_eq_true (show (a : Int) ≤ 2 by omega)]; rfl)
  replace hlen : ts.length ≤ 1000000 := by have h := (borderB_all hs).2.1; omega
  clear hs
  go_enter Try.func21, Try.ntmps21
  go_upto_region 0 with (fail)
  refine wp_region_lit ?_
  refine ls_op rfl (fun K' hK' => ?_)
  have lz1 := hB.size
  refine wp_new (some 2) rfl (exec_box 29 _ rfl (#[.int .i64 p, .int .i64 n, .int .i64 m, .int .i64 k, .slice A ts.length c]) rfl) (fun Wz2 nnz3 => ?_)
  have bz4 := nnz3.below (Below.refl _ _) (Nat.le_refl _)
  replace hB := below_after hB bz4
  have hz5 : At Wz2 w.heap.size (.cells #[.int .i64 p, .int .i64 n, .int .i64 m, .int .i64 k, .slice A ts.length c] 29 (0, 0)) := nnz3.at_
  refine hK' _ _ ?_
  clear hK' K' nnz3 bz4
  go_frame
  refine ls_op rfl (fun K' hK' => ?_)
  have lz6 := hB.size
  have lz7 := hz5.lt
  refine wp_new (some 4) rfl (al_impl_Border rfl) (fun Wz8 nnz9 => ?_)
  have bz10 := nnz9.below (Below.refl _ _) (Nat.le_refl _)
  replace hB := below_after hB bz10
  replace hz5 := hz5.after bz10
  have hz11 : At Wz8 Wz2.heap.size (.cells #[.int .i64 0, .int .i64 0, .int .i64 0, .int .i64 0, .slice none 0 0] 29 (0, 0)) := nnz9.at_
  refine hK' _ _ ?_
  clear hK' K' nnz9 bz10
  go_frame
  refine ls_ex (some 5) (.int .i64 0) rfl rfl (exec_assign _ rfl (.int .i64 0) rfl) ?_
  go_frame
  refine wpList_nil ?_
  go_upto_region 1 with (fail)
  refine wp_region_lit ?_
  refine ls_ex (some 13) (.agg #[.int .i64 p, .int .i64 n, .int .i64 m, .int .i64 k, .slice A ts.length c]) rfl rfl (exec_load_all 29 _ rfl w.heap.size rfl _ _ _ hz5 Try.underlying29 rfl 5 (by kernel_rfl) rfl) ?_
  go_frame
  refine ls_op rfl (fun K' hK' => ?_)
  have lz14 := hB.size
  have lz15 := hz5.lt
  have lz16 := hz11.lt
  refine wp_call1 (some 14) rfl 31 _ _ rfl (fun args w => by kernel_rfl) _ rfl _ (l08Is_c p n m k A c ts _ (hR.keep hB) (by omega)) (fun e Wz12 h => ?_)
  obtain ⟨rfl, bz13⟩ := h
  replace hB := below_after hB bz13
  replace hz5 := hz5.after bz13
  replace hz11 := hz11.after bz13
  rw [Hs.out]
  clear bz13
  refine ⟨_, rfl, ?_⟩
  refine hK' _ _ ?_
  clear hK' K'
  go_frame
  refine ls_ex (some 15) (.bool false) rfl rfl (exec_not _ _ rfl true rfl) ?_
  go_frame
  refine ls_ex (some 12) (.bool false) rfl rfl (exec_assign _ rfl (.bool false) rfl) ?_
  go_frame
  refine wpList_nil ?_
  go_upto_region 3 with (fail)
  refine wp_region_lit ?_
  refine ls_ex (some 18) (.int .i64 a) rfl rfl (exec_move _ rfl (.int .i64 a) rfl) ?_
  go_frame
  refine ls_op rfl (fun K' hK' => ?_)
  have lz19 := hB.size
  have lz20 := hz5.lt
  have lz21 := hz11.lt
  refine wp_call3 (some 19) rfl 48 _ _ _ _ rfl (fun args w => by kernel_rfl) _ _ _ rfl rfl rfl _ (l01In_c (a : Int) 0 2 _) (fun e Wz17 h => ?_)
  obtain ⟨rfl, rfl⟩ := h
  rw [Hin.out]
  refine ⟨_, rfl, ?_⟩
  refine hK' _ _ ?_
  clear hK' K'
  go_frame
  refine ls_ex (some 20) (.bool false) rfl rfl (exec_not _ _ rfl true rfl) ?_
  go_frame
  refine ls_ex (some 17) (.bool false) rfl rfl (exec_assign _ rfl (.bool false) rfl) ?_
  go_frame
  refine wpList_nil ?_
  go_upto_region 5 with (fail)
  refine wp_region_lit ?_
  refine ls_ex (some 22) (.agg #[.int .i64 p, .int .i64 n, .int .i64 m, .int .i64 k, .slice A ts.length c]) rfl rfl (exec_load_all 29 _ rfl w.heap.size rfl _ _ _ hz5 Try.underlying29 rfl 5 (by kernel_rfl) rfl) ?_
  go_frame
  refine ls_op rfl (fun K' hK' => ?_)
  have lz24 := hB.size
  have lz25 := hz5.lt
  have lz26 := hz11.lt
  refine wp_call1 (some 23) rfl 49 _ _ rfl (fun args w => by kernel_rfl) _ rfl _ (l08Like_c p n m k A ts.length c _) (fun e Wz22 h => ?_)
  obtain ⟨v7, rfl, ho7, bz23⟩ := h
  replace hB := below_after hB bz23
  replace hz5 := hz5.after bz23
  replace hz11 := hz11.after bz23
  obtain ⟨A7, c7, rfl, _⟩ := ho7.rdc0
  clear ho7
  clear bz23
  refine ⟨_, rfl, ?_⟩
  refine hK' _ _ ?_
  clear hK' K'
  go_frame
  refine ls_op rfl (fun K' hK' => ?_)
  have lz29 := hB.size
  have lz30 := hz5.lt
  have lz31 := hz11.lt
  have lo9 := hB.size
  refine wp_call1 (some 24) rfl 41 _ _ rfl (fun args w => by kernel_rfl) _ rfl _ (l08Of0_c p n m k A7 c7 _) (fun e Wz27 h => ?_)
  obtain ⟨v9, rfl, ho, bz28⟩ := h
  replace hB := below_after hB bz28
  replace hz5 := hz5.after bz28
  replace hz11 := hz11.after bz28
  obtain ⟨A9, c9, rfl⟩ := OwnT.rdN ho (n := 0) rfl
  clear bz28
  refine ⟨_, rfl, ?_⟩
  refine hK' _ _ ?_
  clear hK' K'
  go_frame
  refine ls_op rfl (fun K' hK' => ?_)
  have lz32 := hB.size
  have lz33 := hz5.lt
  have lz34 := hz11.lt
  have naz39 := ho.away_new
  refine wp_new (some 6) rfl (al_impl_Border rfl) (fun Wz35 nnz36 => ?_)
  have bz37 := nnz36.below (Below.refl _ _) (Nat.le_refl _)
  replace hB := below_after hB bz37
  replace hz5 := hz5.after bz37
  replace hz11 := hz11.after bz37
  replace ho := ho.below bz37
  have hz38 : At Wz35 Wz27.heap.size (.cells #[.int .i64 0, .int .i64 0, .int .i64 0, .int .i64 0, .slice none 0 0] 29 (0, 0)) := nnz36.at_
  refine hK' _ _ ?_
  clear hK' K' nnz36 bz37
  go_frame
  refine ls_op rfl (fun K' hK' => ?_)
  refine wp_store_all 29 _ _ rfl rfl Wz27.heap.size rfl #[.int .i64 p, .int .i64 n, .int .i64 m, .int .i64 k, .slice A9 0 c9] rfl _ _ hz38 5 (by kernel_rfl) rfl rfl (one5 _ _ _ _ _ _ _) (fun Wz40 pz41 => ?_)
  replace hB := pz41.below hB (by omega)
  replace hz5 := pz41.other hz5 (by omega)
  replace hz11 := pz41.other hz11 (by omega)
  replace ho := ho.put pz41 naz39
  replace hz38 : At Wz40 Wz27.heap.size (.cells #[.int .i64 p, .int .i64 n, .int .i64 m, .int .i64 k, .slice A9 0 c9] 29 (0, 0)) := pz41.at_
  refine hK' _ _ ?_
  clear hK' K' pz41
  refine wpList_nil ?_
  go_upto_region 6 with (fail)
  refine wp_region_lit ?_
  refine ls_ex (some 7) (.int .i64 0) rfl rfl (exec_assign _ rfl (.int .i64 0) rfl) ?_
  go_frame
  refine wpList_nil ?_
  go_wp2_with fail
  go_loopw [7] (fun s7 wr => ∃ (i : Nat) (v : Value), i ≤ ts.length ∧ s7 = .int .i64 i ∧ Hid ((ts.take i).any (topT a) = false) ∧ Below w.heap.size w wr ∧ At wr w.heap.size (.cells #[.int .i64 p, .int .i64 n, .int .i64 m, .int .i64 k, .slice A ts.length c] 29 (0, 0)) ∧ At wr Wz2.heap.size (.cells #[.int .i64 0, .int .i64 0, .int .i64 0, .int .i64 0, .slice none 0 0] 29 (0, 0)) ∧ At wr Wz27.heap.size (.cells #[.int .i64 p, .int .i64 n, .int .i64 m, .int .i64 k, v] 29 (0, 0)) ∧ OwnT wr w.heap.size v ((ts.take i).map (upT a))) (fun s7 _ => ts.length - (intOf s7).toNat)
  case atStart => exact ⟨0, _, by omega, rfl, Lib.hid rfl, hB, hz5, hz11, hz38, ho.mono (by omega)⟩
  case round =>
    clear hB hz5 hz11 ho hz38
    obtain ⟨i, v, hi, rfl, HA, hB, h0, h1, h2, ho⟩ := hrel
    by_cases hlt : i < ts.length
    · obtain ⟨b, off, rfl, hc⟩ := (hR.keep hB).at_ hlt
      clear hc
      have hq := hR.good _ (List.getElem_mem hlt)
      have Hq108 := Lib.hid hq.len
      have hs36 : Bytes 36 (segm ts[i] (a * 36) 36) := segm_bytes hq (by omega)
      have Hs36 := Lib.hid hs36.len
      obtain ⟨A9, c9, rfl⟩ := OwnT.rdN ho (n := i) (map_take_len hi)
      have HT : Hid ((ts.take i).map (upT a) ++ [upT a ts[i]] = (ts.take (i + 1)).map (upT a)) := Lib.hid (map_take_step hlt)
      have HU : Hid (over ts[i] (a * 36) (upS (segm ts[i] (a * 36) 36)) = upT a ts[i]) := Lib.hid (over_upT hq ha3)
      cases htp : topS (segm ts[i] (a * 36) 36) with
      | false =>
        have HTop := Lib.hid htp
        clear htp
        have HA9 : Hid ((ts.take (i + 1)).any (topT a) = false) := Lib.hid (any_take_step hlt HA.out HTop.out)
        go_upto_region 7 with (fail)
        refine wp_region_lit ?_
        refine ls_ex (some 25) (.int .i64 i) rfl rfl (exec_move _ rfl (.int .i64 i) rfl) ?_
        go_frame
        refine ls_ex (some 26) (.pointer (some ⟨w.heap.size, 4, none⟩)) rfl rfl (exec_fieldAddr 29 _ 4 rfl _ (by kernel_rfl)) ?_
        go_frame
        refine ls_ex (some 27) (.slice (some ⟨b, off, none⟩) ts.length c) rfl rfl (exec_load_one 27 _ rfl w.heap.size 4 rfl (.slice (some ⟨b, off, none⟩) ts.length c) _ Try.underlying27 rfl (h0.at_ 4)) ?_
        go_frame
        refine ls_ex (some 28) (.int .i64 ts.length) rfl rfl (exec_len _ 27 63 rfl ((some ⟨b, off, none⟩)) ts.length c rfl Try.underlying27) ?_
        go_frame
        refine ls_ex (some 29) (.bool true) rfl rfl (exec_lss _ _ _ _ rfl i ts.length rfl rfl true (decide_eq_true (by omega))) ?_
        go_frame
        refine wpList_nil ?_
        go_upto_region 9 with (fail)
        refine wp_region_lit ?_
        refine ls_ex (some 32) (.pointer (some ⟨w.heap.size, 4, none⟩)) rfl rfl (exec_fieldAddr 29 _ 4 rfl _ (by kernel_rfl)) ?_
        go_frame
        refine ls_ex (some 33) (.slice (some ⟨b, off, none⟩) ts.length c) rfl rfl (exec_load_one 27 _ rfl w.heap.size 4 rfl (.slice (some ⟨b, off, none⟩) ts.length c) _ Try.underlying27 rfl (h0.at_ 4)) ?_
        go_frame
        refine ls_ex (some 34) (.int .i64 i) rfl rfl (exec_move _ rfl (.int .i64 i) rfl) ?_
        go_frame
        refine ls_ex (some 35) (.pointer (some ⟨b, off + i * 108, none⟩)) rfl rfl (exec_index_slice _ 63 _ _ rfl b off ts.length c i 108 rfl rfl Try.underlying27 (by kernel_rfl) (by omega)) ?_
        go_frame
        refine ls_ex (some 36) (.agg (u8s (ts[i]))) rfl rfl (exec_load_cells 63 _ rfl b (off + i * 108) rfl ts[i] _ 108 (RdT.c108 (hR.keep hB) hlt) Try.underlying63 rfl (by kernel_rfl) Hq108.out) ?_
        go_frame
        refine ls_op rfl (fun K' hK' => ?_)
        have lz42 := hB.size
        have lz43 := h0.lt
        have lz44 := h1.lt
        have lz45 := h2.lt
        have naz50 := ho.away_new
        refine wp_new (some 8) rfl (al_impl_Twig rfl) (fun Wz46 nnz47 => ?_)
        have bz48 := nnz47.below (Below.refl _ _) (Nat.le_refl _)
        replace hB := below_after hB bz48
        replace h0 := h0.after bz48
        replace h1 := h1.after bz48
        replace h2 := h2.after bz48
        replace ho := ho.below bz48
        have hz49 : At Wz46 wr.heap.size (.cells (u8s (List.replicate 108 0)) 63 (0, 0)) := nnz47.at_
        refine hK' _ _ ?_
        clear hK' K' nnz47 bz48
        go_frame
        refine ls_op rfl (fun K' hK' => ?_)
        refine wp_store_bytes 63 _ _ rfl rfl wr.heap.size rfl (ts[i]) rfl _ _ hz49 108 (by kernel_rfl) Hq108.out (by simp) (fun Wz51 pz52 => ?_)
        replace hB := pz52.below hB (by omega)
        replace h0 := pz52.other h0 (by omega)
        replace h1 := pz52.other h1 (by omega)
        replace h2 := pz52.other h2 (by omega)
        replace ho := ho.put pz52 naz50
        replace hz49 : At Wz51 wr.heap.size (.cells (u8s (ts[i])) 63 (0, 0)) := pz52.at_
        refine hK' _ _ ?_
        clear hK' K' pz52
        refine wpList_nil ?_
        go_upto_region 10 with (fail)
        refine wp_region_lit ?_
        refine ls_ex (some 37) (.pointer (some ⟨wr.heap.size, 0, none⟩)) rfl rfl (exec_fieldAddr 63 _ 0 rfl _ (by kernel_rfl)) ?_
        go_frame
        refine ls_ex (some 38) (.agg (u8s (segm (ts[i]) 0 36))) rfl rfl (exec_load_seg 61 _ rfl wr.heap.size (0) rfl _ (ts[i]) _ 36 hz49 Try.underlying61 rfl (by kernel_rfl) (by rw [Hq108.out]; omega) (segm (ts[i]) 0 36) rfl) ?_
        go_frame
        refine ls_ex (some 39) (.pointer (some ⟨wr.heap.size, 36, none⟩)) rfl rfl (exec_fieldAddr 63 _ 1 rfl _ (by kernel_rfl)) ?_
        go_frame
        refine ls_ex (some 40) (.agg (u8s (segm (ts[i]) 36 36))) rfl rfl (exec_load_seg 61 _ rfl wr.heap.size (36) rfl _ (ts[i]) _ 36 hz49 Try.underlying61 rfl (by kernel_rfl) (by rw [Hq108.out]; omega) (segm (ts[i]) 36 36) rfl) ?_
        go_frame
        refine ls_ex (some 41) (.pointer (some ⟨wr.heap.size, 72, none⟩)) rfl rfl (exec_fieldAddr 63 _ 2 rfl _ (by kernel_rfl)) ?_
        go_frame
        refine ls_ex (some 42) (.agg (u8s (segm (ts[i]) 72 36))) rfl rfl (exec_load_seg 61 _ rfl wr.heap.size (72) rfl _ (ts[i]) _ 36 hz49 Try.underlying61 rfl (by kernel_rfl) (by rw [Hq108.out]; omega) (segm (ts[i]) 72 36) rfl) ?_
        go_frame
        refine ls_ex (some 43) (.agg (u8s (ts[i]))) rfl rfl (exec_build_sers _ _ _ rfl ts[i] Hq108.out rfl rfl rfl) ?_
        go_frame
        refine ls_op rfl (fun K' hK' => ?_)
        have lz53 := hB.size
        have lz54 := h0.lt
        have lz55 := h1.lt
        have lz56 := h2.lt
        have lz57 := hz49.lt
        have naz62 := ho.away_new
        refine wp_new (some 9) rfl (al__3_impl_Series rfl) (fun Wz58 nnz59 => ?_)
        have bz60 := nnz59.below (Below.refl _ _) (Nat.le_refl _)
        replace hB := below_after hB bz60
        replace h0 := h0.after bz60
        replace h1 := h1.after bz60
        replace h2 := h2.after bz60
        replace ho := ho.below bz60
        replace hz49 := hz49.after bz60
        have hz61 : At Wz58 Wz51.heap.size (.cells (u8s (List.replicate 108 0)) 82 (0, 0)) := nnz59.at_
        refine hK' _ _ ?_
        clear hK' K' nnz59 bz60
        go_frame
        refine ls_op rfl (fun K' hK' => ?_)
        refine wp_store_bytes 82 _ _ rfl rfl Wz51.heap.size rfl (ts[i]) rfl _ _ hz61 108 (by kernel_rfl) Hq108.out (by simp) (fun Wz63 pz64 => ?_)
        replace hB := pz64.below hB (by omega)
        replace h0 := pz64.other h0 (by omega)
        replace h1 := pz64.other h1 (by omega)
        replace h2 := pz64.other h2 (by omega)
        replace ho := ho.put pz64 naz62
        replace hz49 := pz64.other hz49 (by omega)
        replace hz61 : At Wz63 Wz51.heap.size (.cells (u8s (ts[i])) 82 (0, 0)) := pz64.at_
        refine hK' _ _ ?_
        clear hK' K' pz64
        refine wpList_nil ?_
        go_upto_region 11 with (fail)
        refine wp_region_lit ?_
        refine ls_ex (some 45) (.int .i64 a) rfl rfl (exec_move _ rfl (.int .i64 a) rfl) ?_
        go_frame
        refine ls_ex (some 46) (.pointer (some ⟨Wz51.heap.size, a * 36, none⟩)) rfl rfl (exec_index_arr0 82 61 _ _ rfl Wz51.heap.size 3 a 36 rfl rfl Try.underlying82 (by kernel_rfl) ha3) ?_
        go_frame
        refine ls_ex (some 47) (.agg (u8s (segm ts[i] (a * 36) 36))) rfl rfl (exec_load_seg 61 _ rfl Wz51.heap.size (a * 36) rfl _ (ts[i]) _ 36 hz61 Try.underlying61 rfl (by kernel_rfl) (by rw [Hq108.out]; omega) (segm ts[i] (a * 36) 36) rfl) ?_
        go_frame
        refine ls_op rfl (fun K' hK' => ?_)
        have lz67 := hB.size
        have lz68 := h0.lt
        have lz69 := h1.lt
        have lz70 := h2.lt
        have lz71 := hz49.lt
        have lz72 := hz61.lt
        refine wp_call1 (some 48) rfl 50 _ _ rfl (fun args w => by kernel_rfl) _ rfl _ (l08Up_c (segm ts[i] (a * 36) 36) hs36 _) (fun e Wz65 h => ?_)
        obtain ⟨q9, hq9, rfl, hqe, bz66⟩ := h
        replace hB := below_after hB bz66
        replace h0 := h0.after bz66
        replace h1 := h1.after bz66
        replace h2 := h2.after bz66
        replace ho := ho.below bz66
        replace hz49 := hz49.after bz66
        replace hz61 := hz61.after bz66
        rw [HTop.out]
        obtain rfl := hqe HTop.out
        clear bz66
        refine ⟨_, rfl, ?_⟩
        refine hK' _ _ ?_
        clear hK' K'
        go_frame
        refine ls_ex (some 44) (.tuple #[.agg (u8s (upS (segm ts[i] (a * 36) 36))), .bool true]) rfl rfl (exec_move _ rfl (.tuple #[.agg (u8s (upS (segm ts[i] (a * 36) 36))), .bool true]) rfl) ?_
        go_frame
        refine ls_ex (some 49) (.agg (u8s (upS (segm ts[i] (a * 36) 36)))) rfl rfl (exec_extract _ 0 rfl #[.agg (u8s (upS (segm ts[i] (a * 36) 36))), .bool true] (by rfl) _ rfl) ?_
        go_frame
        refine ls_ex (some 50) (.bool true) rfl rfl (exec_extract _ 1 rfl #[.agg (u8s (upS (segm ts[i] (a * 36) 36))), .bool true] (by rfl) _ rfl) ?_
        go_frame
        refine ls_op rfl (fun K' hK' => ?_)
        have lz73 := hB.size
        have lz74 := h0.lt
        have lz75 := h1.lt
        have lz76 := h2.lt
        have lz77 := hz49.lt
        have lz78 := hz61.lt
        have naz83 := ho.away_new
        refine wp_new (some 10) rfl (al_impl_Series rfl) (fun Wz79 nnz80 => ?_)
        have bz81 := nnz80.below (Below.refl _ _) (Nat.le_refl _)
        replace hB := below_after hB bz81
        replace h0 := h0.after bz81
        replace h1 := h1.after bz81
        replace h2 := h2.after bz81
        replace ho := ho.below bz81
        replace hz49 := hz49.after bz81
        replace hz61 := hz61.after bz81
        have hz82 : At Wz79 Wz65.heap.size (.cells (u8s (List.replicate 36 0)) 61 (0, 0)) := nnz80.at_
        refine hK' _ _ ?_
        clear hK' K' nnz80 bz81
        go_frame
        refine ls_op rfl (fun K' hK' => ?_)
        refine wp_store_bytes 61 _ _ rfl rfl Wz65.heap.size rfl (upS (segm ts[i] (a * 36) 36)) rfl _ _ hz82 36 (by kernel_rfl) (upS_len _) (by simp) (fun Wz84 pz85 => ?_)
        replace hB := pz85.below hB (by omega)
        replace h0 := pz85.other h0 (by omega)
        replace h1 := pz85.other h1 (by omega)
        replace h2 := pz85.other h2 (by omega)
        replace ho := ho.put pz85 naz83
        replace hz49 := pz85.other hz49 (by omega)
        replace hz61 := pz85.other hz61 (by omega)
        replace hz82 : At Wz84 Wz65.heap.size (.cells (u8s (upS (segm ts[i] (a * 36) 36))) 61 (0, 0)) := pz85.at_
        refine hK' _ _ ?_
        clear hK' K' pz85
        refine ls_ex (some 11) (.bool true) rfl rfl (exec_assign _ rfl (.bool true) rfl) ?_
        go_frame
        refine wpList_nil ?_
        go_upto_region 12 with (fail)
        refine wp_region_lit ?_
        refine ls_ex (some 51) (.bool true) rfl rfl (exec_move _ rfl (.bool true) rfl) ?_
        go_frame
        refine ls_ex (some 52) (.bool false) rfl rfl (exec_not _ _ rfl true rfl) ?_
        go_frame
        refine wpList_nil ?_
        go_upto_region 14 with (fail)
        refine wp_region_lit ?_
        refine ls_ex (some 54) (.int .i64 a) rfl rfl (exec_move _ rfl (.int .i64 a) rfl) ?_
        go_frame
        refine ls_ex (some 55) (.agg (u8s (upS (segm ts[i] (a * 36) 36)))) rfl rfl (exec_load_all 61 _ rfl Wz65.heap.size rfl _ _ _ hz82 Try.underlying61 rfl 36 (by kernel_rfl) ((u8s_size _).trans (upS_len _))) ?_
        go_frame
        refine ls_ex (some 56) (.pointer (some ⟨Wz51.heap.size, a * 36, none⟩)) rfl rfl (exec_index_arr0 82 61 _ _ rfl Wz51.heap.size 3 a 36 rfl rfl Try.underlying82 (by kernel_rfl) ha3) ?_
        go_frame
        refine ls_op rfl (fun K' hK' => ?_)
        refine wp_store_u8s 61 _ _ rfl rfl Wz51.heap.size (a * 36) rfl (upS (segm ts[i] (a * 36) 36)) rfl _ _ hz61 36 (by kernel_rfl) (upS_len _) (by rw [Hq108.out]; omega) (fun Wz86 pz87 => ?_)
        replace hB := pz87.below hB (by omega)
        replace h0 := pz87.other h0 (by omega)
        replace h1 := pz87.other h1 (by omega)
        replace h2 := pz87.other h2 (by omega)
        replace ho := ho.put pz87 naz62
        replace hz49 := pz87.other hz49 (by omega)
        replace hz82 := pz87.other hz82 (by omega)
        replace hz61 : At Wz86 Wz51.heap.size (.cells (u8s (upT a ts[i])) 82 (0, 0)) := by have h9 := pz87.at_; rwa [HU.out] at h9
        refine hK' _ _ ?_
        clear hK' K' pz87
        refine wpList_nil ?_
        go_upto_region 15 with (fail)
        refine wp_region_lit ?_
        refine ls_ex (some 57) (.pointer (some ⟨Wz27.heap.size, 4, none⟩)) rfl rfl (exec_fieldAddr 29 _ 4 rfl _ (by kernel_rfl)) ?_
        go_frame
        refine ls_ex (some 58) (.slice A9 i c9) rfl rfl (exec_load_one 27 _ rfl Wz27.heap.size 4 rfl (.slice A9 i c9) _ Try.underlying27 rfl (h2.at_ 4)) ?_
        go_frame
        refine ls_ex (some 59) (.pointer (some ⟨Wz51.heap.size, 0, none⟩)) rfl rfl (exec_index_arr _ 61 _ _ rfl Wz51.heap.size 0 3 0 36 rfl rfl Try.underlying82 (by kernel_rfl) (by omega)) ?_
        go_frame
        refine ls_ex (some 60) (.agg (u8s (segm (upT a ts[i]) 0 36))) rfl rfl (exec_load_seg 61 _ rfl Wz51.heap.size (0) rfl _ (upT a ts[i]) _ 36 hz61 Try.underlying61 rfl (by kernel_rfl) (by rw [(upT_bytes hq).len]; omega) (segm (upT a ts[i]) 0 36) rfl) ?_
        go_frame
        refine ls_ex (some 61) (.pointer (some ⟨Wz51.heap.size, 36, none⟩)) rfl rfl (exec_index_arr _ 61 _ _ rfl Wz51.heap.size 0 3 1 36 rfl rfl Try.underlying82 (by kernel_rfl) (by omega)) ?_
        go_frame
        refine ls_ex (some 62) (.agg (u8s (segm (upT a ts[i]) 36 36))) rfl rfl (exec_load_seg 61 _ rfl Wz51.heap.size (36) rfl _ (upT a ts[i]) _ 36 hz61 Try.underlying61 rfl (by kernel_rfl) (by rw [(upT_bytes hq).len]; omega) (segm (upT a ts[i]) 36 36) rfl) ?_
        go_frame
        refine ls_ex (some 63) (.pointer (some ⟨Wz51.heap.size, 72, none⟩)) rfl rfl (exec_index_arr _ 61 _ _ rfl Wz51.heap.size 0 3 2 36 rfl rfl Try.underlying82 (by kernel_rfl) (by omega)) ?_
        go_frame
        refine ls_ex (some 64) (.agg (u8s (segm (upT a ts[i]) 72 36))) rfl rfl (exec_load_seg 61 _ rfl Wz51.heap.size (72) rfl _ (upT a ts[i]) _ 36 hz61 Try.underlying61 rfl (by kernel_rfl) (by rw [(upT_bytes hq).len]; omega) (segm (upT a ts[i]) 72 36) rfl) ?_
        go_frame
        refine ls_ex (some 65) (.agg (u8s (upT a ts[i]))) rfl rfl (exec_twigE _ _ _ rfl (upT a ts[i]) (upT_bytes hq).len rfl rfl rfl) ?_
        go_frame
        refine ls_op rfl (fun K' hK' => ?_)
        have lz89 := hB.size
        have lz90 := h0.lt
        have lz91 := h1.lt
        have lz92 := h2.lt
        have lz93 := hz49.lt
        have lz94 := hz61.lt
        have lz95 := hz82.lt
        refine wp_slice1T (some 66) rfl 27 63 _ rfl (upT a ts[i]) rfl Try.underlying27 infoTwig (upT_bytes hq).len (fun Wz96 nnz97 => ?_)
        have bz98 := nnz97.below (Below.refl _ _) (Nat.le_refl _)
        replace hB := below_after hB bz98
        replace h0 := h0.after bz98
        replace h1 := h1.after bz98
        replace h2 := h2.after bz98
        replace ho := ho.below bz98
        replace hz49 := hz49.after bz98
        replace hz61 := hz61.after bz98
        replace hz82 := hz82.after bz98
        have hqz99 : At Wz96 Wz86.heap.size (.cells (u8s (upT a ts[i])) 63 (0, 0)) := nnz97.at_
        refine hK' _ _ ?_
        clear hK' K' nnz97 bz98
        go_frame
        refine ls_op rfl (fun K' hK' => ?_)
        have lz103 := hB.size
        have lz104 := h0.lt
        have lz105 := h1.lt
        have lz106 := h2.lt
        have lz107 := hz49.lt
        have lz108 := hz61.lt
        have lz109 := hz82.lt
        have lz110 := hqz99.lt
        refine wp_appT (some 67) rfl _ _ rfl (.slice A9 i c9) ((ts.take i).map (upT a)) (upT a ts[i]) rfl ho Wz86.heap.size rfl hqz99 (upT_bytes hq).len (by rw [map_take_len hi]; omega) (by omega) (fun v8 Wz100 noz102 grz101 => ?_)
        rw [HT.out] at noz102
        obtain ⟨A8, c8, rfl⟩ := OwnT.rdN noz102 (n := i + 1) (map_take_len (by omega))
        replace hB := below_grownT hB grz101 ho (by omega)
        replace h0 := h0.grown grz101 (ho.off h0 (by decide))
        replace h1 := h1.grown grz101 (ho.off h1 (by decide))
        replace h2 := h2.grown grz101 (ho.off h2 (by decide))
        replace hz61 := hz61.grown grz101 (ho.off hz61 (by decide))
        replace hz82 := hz82.grown grz101 (ho.off hz82 (by decide))
        replace ho := noz102
        refine hK' _ _ ?_
        clear hK' K' grz101 hz49 hqz99
        go_frame
        refine ls_ex (some 68) (.pointer (some ⟨Wz27.heap.size, 4, none⟩)) rfl rfl (exec_fieldAddr 29 _ 4 rfl _ (by kernel_rfl)) ?_
        go_frame
        refine ls_op rfl (fun K' hK' => ?_)
        refine wp_store_one 27 _ _ rfl rfl Wz27.heap.size 4 rfl (.slice A8 (i + 1) c8) rfl rfl rfl _ _ h2 (by kernel_rfl) (by simp) (fun Wz111 pz112 => ?_)
        replace hB := pz112.below hB (by omega)
        replace h0 := pz112.other h0 (by omega)
        replace h1 := pz112.other h1 (by omega)
        replace ho := ho.put pz112 (ho.off h2 (by decide))
        replace hz61 := pz112.other hz61 (by omega)
        replace hz82 := pz112.other hz82 (by omega)
        replace h2 : At Wz111 Wz27.heap.size (.cells #[.int .i64 p, .int .i64 n, .int .i64 m, .int .i64 k, .slice A8 (i + 1) c8] 29 (0, 0)) := pz112.at_
        refine hK' _ _ ?_
        clear hK' K' pz112
        refine wpList_nil ?_
        go_upto_region 8 with (fail)
        refine wp_region_lit ?_
        refine ls_ex (some 30) (.int .i64 i) rfl rfl (exec_move _ rfl (.int .i64 i) rfl) ?_
        go_frame
        refine ls_ex (some 31) (.int .i64 (i + 1)) rfl rfl (exec_add _ _ _ _ rfl i 1 (i + 1) rfl rfl (IntWalk.i64_in _ (by omega))) ?_
        go_frame
        refine ls_ex (some 7) (.int .i64 (i + 1)) rfl rfl (exec_assign _ rfl (.int .i64 (i + 1)) rfl) ?_
        go_frame
        refine wpList_nil ?_
        go_wp2_with fail
        go_roundw
        case rel => exact ⟨i + 1, _, by omega, by go_num, HA9, hB, h0, h1, h2, ho⟩
        case measure => simp [intOf]; omega
      | true =>
        have HTop := Lib.hid htp
        clear htp
        have HC3 : Hid (raiCode p n m k ts (a : Int) = 3) := Lib.hid (by unfold raiCode; rw [Hs.out, Hin.out, Int.toNat_natCast, any_at hlt HTop.out]; rfl)
        go_upto_region 7 with (fail)
        refine wp_region_lit ?_
        refine ls_ex (some 25) (.int .i64 i) rfl rfl (exec_move _ rfl (.int .i64 i) rfl) ?_
        go_frame
        refine ls_ex (some 26) (.pointer (some ⟨w.heap.size, 4, none⟩)) rfl rfl (exec_fieldAddr 29 _ 4 rfl _ (by kernel_rfl)) ?_
        go_frame
        refine ls_ex (some 27) (.slice (some ⟨b, off, none⟩) ts.length c) rfl rfl (exec_load_one 27 _ rfl w.heap.size 4 rfl (.slice (some ⟨b, off, none⟩) ts.length c) _ Try.underlying27 rfl (h0.at_ 4)) ?_
        go_frame
        refine ls_ex (some 28) (.int .i64 ts.length) rfl rfl (exec_len _ 27 63 rfl ((some ⟨b, off, none⟩)) ts.length c rfl Try.underlying27) ?_
        go_frame
        refine ls_ex (some 29) (.bool true) rfl rfl (exec_lss _ _ _ _ rfl i ts.length rfl rfl true (decide_eq_true (by omega))) ?_
        go_frame
        refine wpList_nil ?_
        go_upto_region 9 with (fail)
        refine wp_region_lit ?_
        refine ls_ex (some 32) (.pointer (some ⟨w.heap.size, 4, none⟩)) rfl rfl (exec_fieldAddr 29 _ 4 rfl _ (by kernel_rfl)) ?_
        go_frame
        refine ls_ex (some 33) (.slice (some ⟨b, off, none⟩) ts.length c) rfl rfl (exec_load_one 27 _ rfl w.heap.size 4 rfl (.slice (some ⟨b, off, none⟩) ts.length c) _ Try.underlying27 rfl (h0.at_ 4)) ?_
        go_frame
        refine ls_ex (some 34) (.int .i64 i) rfl rfl (exec_move _ rfl (.int .i64 i) rfl) ?_
        go_frame
        refine ls_ex (some 35) (.pointer (some ⟨b, off + i * 108, none⟩)) rfl rfl (exec_index_slice _ 63 _ _ rfl b off ts.length c i 108 rfl rfl Try.underlying27 (by kernel_rfl) (by omega)) ?_
        go_frame
        refine ls_ex (some 36) (.agg (u8s (ts[i]))) rfl rfl (exec_load_cells 63 _ rfl b (off + i * 108) rfl ts[i] _ 108 (RdT.c108 (hR.keep hB) hlt) Try.underlying63 rfl (by kernel_rfl) Hq108.out) ?_
        go_frame
        refine ls_op rfl (fun K' hK' => ?_)
        have lz113 := hB.size
        have lz114 := h0.lt
        have lz115 := h1.lt
        have lz116 := h2.lt
        have naz121 := ho.away_new
        refine wp_new (some 8) rfl (al_impl_Twig rfl) (fun Wz117 nnz118 => ?_)
        have bz119 := nnz118.below (Below.refl _ _) (Nat.le_refl _)
        replace hB := below_after hB bz119
        replace h0 := h0.after bz119
        replace h1 := h1.after bz119
        replace h2 := h2.after bz119
        replace ho := ho.below bz119
        have hz120 : At Wz117 wr.heap.size (.cells (u8s (List.replicate 108 0)) 63 (0, 0)) := nnz118.at_
        refine hK' _ _ ?_
        clear hK' K' nnz118 bz119
        go_frame
        refine ls_op rfl (fun K' hK' => ?_)
        refine wp_store_bytes 63 _ _ rfl rfl wr.heap.size rfl (ts[i]) rfl _ _ hz120 108 (by kernel_rfl) Hq108.out (by simp) (fun Wz122 pz123 => ?_)
        replace hB := pz123.below hB (by omega)
        replace h0 := pz123.other h0 (by omega)
        replace h1 := pz123.other h1 (by omega)
        replace h2 := pz123.other h2 (by omega)
        replace ho := ho.put pz123 naz121
        replace hz120 : At Wz122 wr.heap.size (.cells (u8s (ts[i])) 63 (0, 0)) := pz123.at_
        refine hK' _ _ ?_
        clear hK' K' pz123
        refine wpList_nil ?_
        go_upto_region 10 with (fail)
        refine wp_region_lit ?_
        refine ls_ex (some 37) (.pointer (some ⟨wr.heap.size, 0, none⟩)) rfl rfl (exec_fieldAddr 63 _ 0 rfl _ (by kernel_rfl)) ?_
        go_frame
        refine ls_ex (some 38) (.agg (u8s (segm (ts[i]) 0 36))) rfl rfl (exec_load_seg 61 _ rfl wr.heap.size (0) rfl _ (ts[i]) _ 36 hz120 Try.underlying61 rfl (by kernel_rfl) (by rw [Hq108.out]; omega) (segm (ts[i]) 0 36) rfl) ?_
        go_frame
        refine ls_ex (some 39) (.pointer (some ⟨wr.heap.size, 36, none⟩)) rfl rfl (exec_fieldAddr 63 _ 1 rfl _ (by kernel_rfl)) ?_
        go_frame
        refine ls_ex (some 40) (.agg (u8s (segm (ts[i]) 36 36))) rfl rfl (exec_load_seg 61 _ rfl wr.heap.size (36) rfl _ (ts[i]) _ 36 hz120 Try.underlying61 rfl (by kernel_rfl) (by rw [Hq108.out]; omega) (segm (ts[i]) 36 36) rfl) ?_
        go_frame
        refine ls_ex (some 41) (.pointer (some ⟨wr.heap.size, 72, none⟩)) rfl rfl (exec_fieldAddr 63 _ 2 rfl _ (by kernel_rfl)) ?_
        go_frame
        refine ls_ex (some 42) (.agg (u8s (segm (ts[i]) 72 36))) rfl rfl (exec_load_seg 61 _ rfl wr.heap.size (72) rfl _ (ts[i]) _ 36 hz120 Try.underlying61 rfl (by kernel_rfl) (by rw [Hq108.out]; omega) (segm (ts[i]) 72 36) rfl) ?_
        go_frame
        refine ls_ex (some 43) (.agg (u8s (ts[i]))) rfl rfl (exec_build_sers _ _ _ rfl ts[i] Hq108.out rfl rfl rfl) ?_
        go_frame
        refine ls_op rfl (fun K' hK' => ?_)
        have lz124 := hB.size
        have lz125 := h0.lt
        have lz126 := h1.lt
        have lz127 := h2.lt
        have lz128 := hz120.lt
        have naz133 := ho.away_new
        refine wp_new (some 9) rfl (al__3_impl_Series rfl) (fun Wz129 nnz130 => ?_)
        have bz131 := nnz130.below (Below.refl _ _) (Nat.le_refl _)
        replace hB := below_after hB bz131
        replace h0 := h0.after bz131
        replace h1 := h1.after bz131
        replace h2 := h2.after bz131
        replace ho := ho.below bz131
        replace hz120 := hz120.after bz131
        have hz132 : At Wz129 Wz122.heap.size (.cells (u8s (List.replicate 108 0)) 82 (0, 0)) := nnz130.at_
        refine hK' _ _ ?_
        clear hK' K' nnz130 bz131
        go_frame
        refine ls_op rfl (fun K' hK' => ?_)
        refine wp_store_bytes 82 _ _ rfl rfl Wz122.heap.size rfl (ts[i]) rfl _ _ hz132 108 (by kernel_rfl) Hq108.out (by simp) (fun Wz134 pz135 => ?_)
        replace hB := pz135.below hB (by omega)
        replace h0 := pz135.other h0 (by omega)
        replace h1 := pz135.other h1 (by omega)
        replace h2 := pz135.other h2 (by omega)
        replace ho := ho.put pz135 naz133
        replace hz120 := pz135.other hz120 (by omega)
        replace hz132 : At Wz134 Wz122.heap.size (.cells (u8s (ts[i])) 82 (0, 0)) := pz135.at_
        refine hK' _ _ ?_
        clear hK' K' pz135
        refine wpList_nil ?_
        go_upto_region 11 with (fail)
        refine wp_region_lit ?_
        refine ls_ex (some 45) (.int .i64 a) rfl rfl (exec_move _ rfl (.int .i64 a) rfl) ?_
        go_frame
        refine ls_ex (some 46) (.pointer (some ⟨Wz122.heap.size, a * 36, none⟩)) rfl rfl (exec_index_arr0 82 61 _ _ rfl Wz122.heap.size 3 a 36 rfl rfl Try.underlying82 (by kernel_rfl) ha3) ?_
        go_frame
        refine ls_ex (some 47) (.agg (u8s (segm ts[i] (a * 36) 36))) rfl rfl (exec_load_seg 61 _ rfl Wz122.heap.size (a * 36) rfl _ (ts[i]) _ 36 hz132 Try.underlying61 rfl (by kernel_rfl) (by rw [Hq108.out]; omega) (segm ts[i] (a * 36) 36) rfl) ?_
        go_frame
        refine ls_op rfl (fun K' hK' => ?_)
        have lz138 := hB.size
        have lz139 := h0.lt
        have lz140 := h1.lt
        have lz141 := h2.lt
        have lz142 := hz120.lt
        have lz143 := hz132.lt
        refine wp_call1 (some 48) rfl 50 _ _ rfl (fun args w => by kernel_rfl) _ rfl _ (l08Up_c (segm ts[i] (a * 36) 36) hs36 _) (fun e Wz136 h => ?_)
        obtain ⟨q9, hq9, rfl, hqe, bz137⟩ := h
        replace hB := below_after hB bz137
        replace h0 := h0.after bz137
        replace h1 := h1.after bz137
        replace h2 := h2.after bz137
        replace ho := ho.below bz137
        replace hz120 := hz120.after bz137
        replace hz132 := hz132.after bz137
        rw [HTop.out]
        clear bz137
        refine ⟨_, rfl, ?_⟩
        refine hK' _ _ ?_
        clear hK' K'
        go_frame
        refine ls_ex (some 44) (.tuple #[.agg (u8s (q9)), .bool false]) rfl rfl (exec_move _ rfl (.tuple #[.agg (u8s (q9)), .bool false]) rfl) ?_
        go_frame
        refine ls_ex (some 49) (.agg (u8s (q9))) rfl rfl (exec_extract _ 0 rfl #[.agg (u8s (q9)), .bool false] (by rfl) _ rfl) ?_
        go_frame
        refine ls_ex (some 50) (.bool false) rfl rfl (exec_extract _ 1 rfl #[.agg (u8s (q9)), .bool false] (by rfl) _ rfl) ?_
        go_frame
        refine ls_op rfl (fun K' hK' => ?_)
        have lz144 := hB.size
        have lz145 := h0.lt
        have lz146 := h1.lt
        have lz147 := h2.lt
        have lz148 := hz120.lt
        have lz149 := hz132.lt
        have naz154 := ho.away_new
        refine wp_new (some 10) rfl (al_impl_Series rfl) (fun Wz150 nnz151 => ?_)
        have bz152 := nnz151.below (Below.refl _ _) (Nat.le_refl _)
        replace hB := below_after hB bz152
        replace h0 := h0.after bz152
        replace h1 := h1.after bz152
        replace h2 := h2.after bz152
        replace ho := ho.below bz152
        replace hz120 := hz120.after bz152
        replace hz132 := hz132.after bz152
        have hz153 : At Wz150 Wz136.heap.size (.cells (u8s (List.replicate 36 0)) 61 (0, 0)) := nnz151.at_
        refine hK' _ _ ?_
        clear hK' K' nnz151 bz152
        go_frame
        refine ls_op rfl (fun K' hK' => ?_)
        refine wp_store_bytes 61 _ _ rfl rfl Wz136.heap.size rfl (q9) rfl _ _ hz153 36 (by kernel_rfl) hq9 (by simp) (fun Wz155 pz156 => ?_)
        replace hB := pz156.below hB (by omega)
        replace h0 := pz156.other h0 (by omega)
        replace h1 := pz156.other h1 (by omega)
        replace h2 := pz156.other h2 (by omega)
        replace ho := ho.put pz156 naz154
        replace hz120 := pz156.other hz120 (by omega)
        replace hz132 := pz156.other hz132 (by omega)
        replace hz153 : At Wz155 Wz136.heap.size (.cells (u8s (q9)) 61 (0, 0)) := pz156.at_
        refine hK' _ _ ?_
        clear hK' K' pz156
        refine ls_ex (some 11) (.bool false) rfl rfl (exec_assign _ rfl (.bool false) rfl) ?_
        go_frame
        refine wpList_nil ?_
        go_upto_region 12 with (fail)
        refine wp_region_lit ?_
        refine ls_ex (some 51) (.bool false) rfl rfl (exec_move _ rfl (.bool false) rfl) ?_
        go_frame
        refine ls_ex (some 52) (.bool true) rfl rfl (exec_not _ _ rfl false rfl) ?_
        go_frame
        refine wpList_nil ?_
        go_upto_region 13 with (fail)
        refine wp_region_lit ?_
        refine ls_ex (some 53) (.agg #[.int .i64 0, .int .i64 0, .int .i64 0, .int .i64 0, .slice none 0 0]) rfl rfl (exec_build_nil 29 rfl _ (by kernel_rfl)) ?_
        go_frame
        refine ls_op rfl (fun K' hK' => ?_)
        refine wp_store_all 29 _ _ rfl rfl Wz2.heap.size rfl #[.int .i64 0, .int .i64 0, .int .i64 0, .int .i64 0, .slice none 0 0] rfl _ _ h1 5 (by kernel_rfl) rfl rfl (one5 _ _ _ _ _ _ _) (fun Wz157 pz158 => ?_)
        replace hB := pz158.below hB (by omega)
        replace h0 := pz158.other h0 (by omega)
        replace h2 := pz158.other h2 (by omega)
        replace ho := ho.put pz158 (ho.off h1 (by decide))
        replace hz120 := pz158.other hz120 (by omega)
        replace hz132 := pz158.other hz132 (by omega)
        replace hz153 := pz158.other hz153 (by omega)
        replace h1 : At Wz157 Wz2.heap.size (.cells #[.int .i64 0, .int .i64 0, .int .i64 0, .int .i64 0, .slice none 0 0] 29 (0, 0)) := pz158.at_
        refine hK' _ _ ?_
        clear hK' K' pz158
        refine ls_ex (some 5) (.int .i64 3) rfl rfl (exec_assign _ rfl (.int .i64 3) rfl) ?_
        go_frame
        refine wpList_nil ?_
        go_wp2_with fail
        refine bodyPost_ret (results_at2 rfl _ _ Wz2.heap.size _ _ _ rfl _ rfl h1 Try.underlying29 rfl 5 (by kernel_rfl) rfl) rfl ?_
        unfold ResD outZ outL
        rw [HC3.out]
        exact ⟨_, rfl, OwnT.nil _ _, hB⟩
    · obtain ⟨A9, c9, rfl⟩ := OwnT.rdN ho (n := i) (map_take_len hi)
      have HE : Hid ((ts.take i).map (upT a) = ts.map (upT a)) := Lib.hid (by rw [show i = ts.length by omega, List.take_length])
      rw [HE.out] at ho
      have HC : Hid (raiCode p n m k ts (a : Int) = 0) := Lib.hid (by have h := HA.out; rw [show i = ts.length by omega, List.take_length] at h; unfold raiCode; rw [Hs.out, Hin.out, Int.toNat_natCast, h]; rfl)
      go_upto_region 7 with (fail)
      refine wp_region_lit ?_
      refine ls_ex (some 25) (.int .i64 i) rfl rfl (exec_move _ rfl (.int .i64 i) rfl) ?_
      go_frame
      refine ls_ex (some 26) (.pointer (some ⟨w.heap.size, 4, none⟩)) rfl rfl (exec_fieldAddr 29 _ 4 rfl _ (by kernel_rfl)) ?_
      go_frame
      refine ls_ex (some 27) (.slice A ts.length c) rfl rfl (exec_load_one 27 _ rfl w.heap.size 4 rfl (.slice A ts.length c) _ Try.underlying27 rfl (h0.at_ 4)) ?_
      go_frame
      refine ls_ex (some 28) (.int .i64 ts.length) rfl rfl (exec_len _ 27 63 rfl A ts.length c rfl Try.underlying27) ?_
      go_frame
      refine ls_ex (some 29) (.bool false) rfl rfl (exec_lss _ _ _ _ rfl i ts.length rfl rfl false (decide_eq_false (by omega))) ?_
      go_frame
      refine wpList_nil ?_
      go_upto_region 16 with (fail)
      refine wp_region_lit ?_
      refine ls_ex (some 69) (.agg #[.int .i64 p, .int .i64 n, .int .i64 m, .int .i64 k, .slice A9 i c9]) rfl rfl (exec_load_all 29 _ rfl Wz27.heap.size rfl _ _ _ h2 Try.underlying29 rfl 5 (by kernel_rfl) rfl) ?_
      go_frame
      refine ls_op rfl (fun K' hK' => ?_)
      refine wp_store_all 29 _ _ rfl rfl Wz2.heap.size rfl #[.int .i64 p, .int .i64 n, .int .i64 m, .int .i64 k, .slice A9 i c9] rfl _ _ h1 5 (by kernel_rfl) rfl rfl (one5 _ _ _ _ _ _ _) (fun Wz159 pz160 => ?_)
      replace hB := pz160.below hB (by omega)
      replace h0 := pz160.other h0 (by omega)
      replace h2 := pz160.other h2 (by omega)
      replace ho := ho.put pz160 (ho.off h1 (by decide))
      replace h1 : At Wz159 Wz2.heap.size (.cells #[.int .i64 p, .int .i64 n, .int .i64 m, .int .i64 k, .slice A9 i c9] 29 (0, 0)) := pz160.at_
      refine hK' _ _ ?_
      clear hK' K' pz160
      refine ls_ex (some 5) (.int .i64 0) rfl rfl (exec_assign _ rfl (.int .i64 0) rfl) ?_
      go_frame
      refine wpList_nil ?_
      go_wp2_with fail
      refine bodyPost_ret (results_at2 rfl _ _ Wz2.heap.size _ _ _ rfl _ rfl h1 Try.underlying29 rfl 5 (by kernel_rfl) rfl) rfl ?_
      unfold ResD outZ outL
      rw [HC.out]
      exact ⟨_, rfl, ho.mono (by omega), hB⟩
set_option maxHeartbeats 12800000 in
theorem implRaise_v (p n m k : Int) (A : Option Addr) (c : Nat) (ts : List (List Nat)) (a : Nat) (w : World) (hR : RdT w A ts) (hlen : ts.length ≤ 1048576) (hs : borderB p n m k ts = true) (ha3 : a < 3) :
    Calls Try.prog 22 #[.agg #[.int .i64 p, .int .i64 n, .int .i64 m, .int .i64 k, .slice A ts.length c], .int .i64 (a : Int)] w (ResD w (outZ (raiCode p n m k ts (a : Int)) p) (outZ (raiCode p n m k ts (a : Int)) n) (outZ (raiCode p n m k ts (a : Int)) m) (outZ (raiCode p n m k ts (a : Int)) k) (outL (raiCode p n m k ts (a : Int)) (ts.map (upT (a : Int).toNat))) (raiCode p n m k ts (a : Int))) := by
  have hB := Below.refl w.heap.size w
  have Hs := Lib.hid hs
  have Hin : Hid ((decide (0 ≤ (a : Int)) && decide ((a : Int) ≤ 2)) = true) := Lib.hid (by rw [decide_eq_true (show (0 : Int) ≤ a by omega), decide_eq_true (show (a : Int) ≤ 2 by omega)]; rfl)
  replace hlen : ts.length ≤ 1000000 := by have h := (borderB_all hs).2.1; omega
  clear hs
  have Hin3 : Hid (inB (a : Int) 3 = true) := Lib.hid (by unfold inB; rw [decide_eq_true (show (0 : Int) ≤ a by omega), decide_eq_true (show (a : Int) < 3 by omega)]; rfl)
  go_enter Try.func22, Try.ntmps22
  go_upto_region 0 with (fail)
  refine wp_region_lit ?_
  refine ls_op rfl (fun K' hK' => ?_)
  have lz1 := hB.size
  refine wp_new (some 2) rfl (exec_box 29 _ rfl (#[.int .i64 p, .int .i64 n, .int .i64 m, .int .i64 k, .slice A ts.length c]) rfl) (fun Wz2 nnz3 => ?_)
  have bz4 := nnz3.below (Below.refl _ _) (Nat.le_refl _)
  replace hB := below_after hB bz4
  have hz5 : At Wz2 w.heap.size (.cells #[.int .i64 p, .int .i64 n, .int .i64 m, .int .i64 k, .slice A ts.length c] 29 (0, 0)) := nnz3.at_
  refine hK' _ _ ?_
  clear hK' K' nnz3 bz4
  go_frame
  refine ls_op rfl (fun K' hK' => ?_)
  have lz6 := hB.size
  have lz7 := hz5.lt
  refine wp_new (some 3) rfl (exec_box 2 _ rfl (#[.int .i64 a]) rfl) (fun Wz8 nnz9 => ?_)
  have bz10 := nnz9.below (Below.refl _ _) (Nat.le_refl _)
  replace hB := below_after hB bz10
  replace hz5 := hz5.after bz10
  have hz11 : At Wz8 Wz2.heap.size (.cells #[.int .i64 a] 2 (0, 0)) := nnz9.at_
  refine hK' _ _ ?_
  clear hK' K' nnz9 bz10
  go_frame
  refine ls_op rfl (fun K' hK' => ?_)
  have lz12 := hB.size
  have lz13 := hz5.lt
  have lz14 := hz11.lt
  refine wp_new (some 4) rfl (al_impl_Border rfl) (fun Wz15 nnz16 => ?_)
  have bz17 := nnz16.below (Below.refl _ _) (Nat.le_refl _)
  replace hB := below_after hB bz17
  replace hz5 := hz5.after bz17
  replace hz11 := hz11.after bz17
  have hz18 : At Wz15 Wz8.heap.size (.cells #[.int .i64 0, .int .i64 0, .int .i64 0, .int .i64 0, .slice none 0 0] 29 (0, 0)) := nnz16.at_
  refine hK' _ _ ?_
  clear hK' K' nnz16 bz17
  go_frame
  refine ls_ex (some 5) (.int .i64 0) rfl rfl (exec_assign _ rfl (.int .i64 0) rfl) ?_
  go_frame
  refine wpList_nil ?_
  go_upto_region 1 with (fail)
  refine wp_region_lit ?_
  refine ls_ex (some 8) (.agg #[.int .i64 p, .int .i64 n, .int .i64 m, .int .i64 k, .slice A ts.length c]) rfl rfl (exec_load_all 29 _ rfl w.heap.size rfl _ _ _ hz5 Try.underlying29 rfl 5 (by kernel_rfl) rfl) ?_
  go_frame
  refine ls_op rfl (fun K' hK' => ?_)
  have lz21 := hB.size
  have lz22 := hz5.lt
  have lz23 := hz11.lt
  have lz24 := hz18.lt
  refine wp_call1 (some 9) rfl 11 _ _ rfl (fun args w => by kernel_rfl) _ rfl _ (implIsBorder_c p n m k A c ts _ (hR.keep hB) (by omega)) (fun e Wz19 h => ?_)
  obtain ⟨rfl, bz20⟩ := h
  replace hB := below_after hB bz20
  replace hz5 := hz5.after bz20
  replace hz11 := hz11.after bz20
  replace hz18 := hz18.after bz20
  rw [Hs.out]
  clear bz20
  refine ⟨_, rfl, ?_⟩
  refine hK' _ _ ?_
  clear hK' K'
  go_frame
  refine ls_ex (some 10) (.bool false) rfl rfl (exec_not _ _ rfl true rfl) ?_
  go_frame
  refine wpList_nil ?_
  go_upto_region 3 with (fail)
  refine wp_region_lit ?_
  refine ls_ex (some 12) (.int .i64 a) rfl rfl (exec_load_one 2 _ rfl Wz2.heap.size 0 rfl (.int .i64 a) _ Try.underlying2 rfl (hz11.at_ 0)) ?_
  go_frame
  refine ls_op rfl (fun K' hK' => ?_)
  have lz27 := hB.size
  have lz28 := hz5.lt
  have lz29 := hz11.lt
  have lz30 := hz18.lt
  refine wp_call2 (some 13) rfl 51 _ _ _ rfl (fun args w => by kernel_rfl) _ _ rfl rfl _ (isIndex_c (a : Int) 3 _) (fun e Wz25 h => ?_)
  obtain ⟨rfl, rfl⟩ := h
  rw [Hin3.out]
  refine ⟨_, rfl, ?_⟩
  refine hK' _ _ ?_
  clear hK' K'
  go_frame
  refine ls_ex (some 14) (.bool false) rfl rfl (exec_not _ _ rfl true rfl) ?_
  go_frame
  refine wpList_nil ?_
  go_upto_region 5 with (fail)
  refine wp_region_lit ?_
  refine ls_ex (some 16) (.pointer (some ⟨w.heap.size, 4, none⟩)) rfl rfl (exec_fieldAddr 29 _ 4 rfl _ (by kernel_rfl)) ?_
  go_frame
  refine ls_ex (some 17) (.slice A ts.length c) rfl rfl (exec_load_one 27 _ rfl w.heap.size 4 rfl (.slice A ts.length c) _ Try.underlying27 rfl (hz5.at_ 4)) ?_
  go_frame
  refine ls_ex (some 18) (.int .i64 ts.length) rfl rfl (exec_len _ 27 63 rfl A ts.length c rfl Try.underlying27) ?_
  go_frame
  refine ls_ex (some 19) (.int .i64 0) rfl rfl (exec_move _ rfl (.int .i64 0) rfl) ?_
  go_frame
  refine wpList_nil ?_
  go_wp2_with fail
  go_loopw [19] (fun s19 wr => ∃ i : Nat, i ≤ ts.length ∧ s19 = .int .i64 i ∧ Hid ((ts.take i).any (topT a) = false) ∧ Below w.heap.size w wr ∧ At wr w.heap.size (.cells #[.int .i64 p, .int .i64 n, .int .i64 m, .int .i64 k, .slice A ts.length c] 29 (0, 0)) ∧ At wr Wz2.heap.size (.cells #[.int .i64 a] 2 (0, 0)) ∧ At wr Wz8.heap.size (.cells #[.int .i64 0, .int .i64 0, .int .i64 0, .int .i64 0, .slice none 0 0] 29 (0, 0))) (fun s19 _ => ts.length - (intOf s19).toNat)
  case atStart => exact ⟨0, by omega, rfl, Lib.hid rfl, hB, hz5, hz11, hz18⟩
  case round =>
    clear hB hz5 hz11 hz18
    obtain ⟨i, hi, rfl, HA, hB, h0, hx, h1⟩ := hrel
    by_cases hlt : i < ts.length
    · obtain ⟨b, off, rfl, hc⟩ := (hR.keep hB).at_ hlt
      clear hc
      have hq := hR.good _ (List.getElem_mem hlt)
      have Hq108 := Lib.hid hq.len
      have hs36 : Bytes 36 (segm ts[i] (a * 36) 36) := segm_bytes hq (by omega)
      have Hs36 := Lib.hid hs36.len
      cases htp : topS (segm ts[i] (a * 36) 36) with
      | false =>
        have HTp : Hid ((!(partL (segm ts[i] (a * 36) 36) 3 == List.replicate 9 0)) = false) := Lib.hid (by rw [topS_part]; exact htp)
        have HTop := Lib.hid htp
        clear htp
        have HA9 : Hid ((ts.take (i + 1)).any (topT a) = false) := Lib.hid (any_take_step hlt HA.out HTop.out)
        go_upto_region 6 with (fail)
        refine wp_region_lit ?_
        refine ls_ex (some 20) (.bool true) rfl rfl (exec_lss _ _ _ _ rfl i ts.length rfl rfl true (decide_eq_true (by omega))) ?_
        go_frame
        refine wpList_nil ?_
        go_upto_region 7 with (fail)
        refine wp_region_lit ?_
        refine ls_ex (some 21) (.pointer (some ⟨b, off + i * 108, none⟩)) rfl rfl (exec_index_slice _ 63 _ _ rfl b off ts.length c i 108 rfl rfl Try.underlying27 (by kernel_rfl) (by omega)) ?_
        go_frame
        refine ls_ex (some 22) (.agg (u8s (ts[i]))) rfl rfl (exec_load_cells 63 _ rfl b (off + i * 108) rfl ts[i] _ 108 (RdT.c108 (hR.keep hB) hlt) Try.underlying63 rfl (by kernel_rfl) Hq108.out) ?_
        go_frame
        refine ls_op rfl (fun K' hK' => ?_)
        have lz31 := hB.size
        have lz32 := h0.lt
        have lz33 := hx.lt
        have lz34 := h1.lt
        refine wp_new (some 7) rfl (al_impl_Twig rfl) (fun Wz35 nnz36 => ?_)
        have bz37 := nnz36.below (Below.refl _ _) (Nat.le_refl _)
        replace hB := below_after hB bz37
        replace h0 := h0.after bz37
        replace hx := hx.after bz37
        replace h1 := h1.after bz37
        have hz38 : At Wz35 wr.heap.size (.cells (u8s (List.replicate 108 0)) 63 (0, 0)) := nnz36.at_
        refine hK' _ _ ?_
        clear hK' K' nnz36 bz37
        go_frame
        refine ls_op rfl (fun K' hK' => ?_)
        refine wp_store_bytes 63 _ _ rfl rfl wr.heap.size rfl (ts[i]) rfl _ _ hz38 108 (by kernel_rfl) Hq108.out (by simp) (fun Wz39 pz40 => ?_)
        replace hB := pz40.below hB (by omega)
        replace h0 := pz40.other h0 (by omega)
        replace hx := pz40.other hx (by omega)
        replace h1 := pz40.other h1 (by omega)
        replace hz38 : At Wz39 wr.heap.size (.cells (u8s (ts[i])) 63 (0, 0)) := pz40.at_
        refine hK' _ _ ?_
        clear hK' K' pz40
        refine wpList_nil ?_
        go_upto_region 8 with (fail)
        refine wp_region_y (zs := []) (S := fun w' => Below w.heap.size w w' ∧ At w' wr.heap.size (.cells (u8s (ts[i])) 63 (0, 0)) ∧ At w' Wz2.heap.size (.cells #[.int .i64 a] 2 (0, 0))) (S2 := fun w' => True) (by kernel_rfl) ?_
        change wpAnyY _ _ _ _ _ _ _ _ _ _ (World.drew _)
        generalize hwdz41 : World.drew _ = wdz41
        replace hB : Below w.heap.size w wdz41 := by rw [← hwdz41]; exact hB.drew
        replace h0 : At wdz41 w.heap.size (.cells #[.int .i64 p, .int .i64 n, .int .i64 m, .int .i64 k, .slice (some ⟨b, off, none⟩) ts.length c] 29 (0, 0)) := by rw [← hwdz41]; exact h0
        replace hx : At wdz41 Wz2.heap.size (.cells #[.int .i64 a] 2 (0, 0)) := by rw [← hwdz41]; exact hx
        replace h1 : At wdz41 Wz8.heap.size (.cells #[.int .i64 0, .int .i64 0, .int .i64 0, .int .i64 0, .slice none 0 0] 29 (0, 0)) := by rw [← hwdz41]; exact h1
        replace hz38 : At wdz41 wr.heap.size (.cells (u8s (ts[i])) 63 (0, 0)) := by rw [← hwdz41]; exact hz38
        clear hwdz41
        refine y_yield 0 (some 23) (.agg (u8s (ts[i]))) rfl (by kernel_rfl) (by kernel_rfl) (by kernel_rfl) (fun _ _ _ h => h) rfl rfl ⟨hB, hz38, hx⟩ (fun w' h' => exec_load_all 63 _ rfl wr.heap.size rfl _ _ _ h'.2.1 Try.underlying63 rfl 108 (by kernel_rfl) ((u8s_size _).trans Hq108.out)) ?_
        go_frame
        refine y_yield 2 (some 25) (.int .i64 a) rfl (by kernel_rfl) (by kernel_rfl) (by kernel_rfl) (fun _ _ _ h => h) rfl rfl ⟨hB, hz38, hx⟩ (fun w' h' => exec_load_one 2 _ rfl Wz2.heap.size 0 rfl (.int .i64 a) _ Try.underlying2 rfl (h'.2.2.at_ 0)) ?_
        go_frame
        refine y_yield 6 (some 29) (.agg (u8s (List.replicate 9 0))) rfl (by kernel_rfl) (by kernel_rfl) (by kernel_rfl) (fun _ _ _ h => h) rfl rfl ⟨hB, hz38, hx⟩ (fun w' h' => exec_build_nil 71 rfl _ (by kernel_rfl)) ?_
        go_frame
        refine y_oper 1 (by kernel_rfl) rfl rfl (fun K' hK' => ?_)
        have lz44 := hB.size
        have lz45 := h0.lt
        have lz46 := hx.lt
        have lz47 := h1.lt
        have lz48 := hz38.lt
        refine wp_call1 (some 24) rfl 53 _ _ rfl (fun args w => by kernel_rfl) _ rfl _ (seriesOf_c ts[i] hq _) (fun e Wz42 h => ?_)
        obtain ⟨rfl, bz43⟩ := h
        replace hB := below_after hB bz43
        replace h0 := h0.after bz43
        replace hx := hx.after bz43
        replace h1 := h1.after bz43
        replace hz38 := hz38.after bz43
        clear bz43
        refine ⟨_, rfl, ?_⟩
        refine hK' _ _ ⟨hB, hz38, hx⟩ (fun _ => trivial) ?_
        clear hK' K'
        go_frame
        refine y_yield 3 (some 26) (.agg (u8s (segm ts[i] (a * 36) 36))) rfl (by kernel_rfl) (by kernel_rfl) (by kernel_rfl) (fun _ _ _ h => h) rfl rfl ⟨hB, hz38, hx⟩ (fun w' h' => exec_index_seg 82 61 _ _ rfl 3 a 36 ts[i] _ rfl rfl Try.underlying82 Try.underlying61 rfl (by kernel_rfl) ha3) ?_
        go_frame
        refine y_oper 4 (by kernel_rfl) rfl rfl (fun K' hK' => ?_)
        have lz51 := hB.size
        have lz52 := h0.lt
        have lz53 := hx.lt
        have lz54 := h1.lt
        have lz55 := hz38.lt
        refine wp_call1 (some 27) rfl 52 _ _ rfl (fun args w => by kernel_rfl) _ rfl _ (partsOf_c (segm ts[i] (a * 36) 36) hs36 _) (fun e Wz49 h => ?_)
        obtain ⟨rfl, bz50⟩ := h
        replace hB := below_after hB bz50
        replace h0 := h0.after bz50
        replace hx := hx.after bz50
        replace h1 := h1.after bz50
        replace hz38 := hz38.after bz50
        clear bz50
        refine ⟨_, rfl, ?_⟩
        refine hK' _ _ ⟨hB, hz38, hx⟩ (fun _ => trivial) ?_
        clear hK' K'
        go_frame
        refine y_yield 5 (some 28) (.agg (u8s (partL (segm ts[i] (a * 36) 36) 3))) rfl (by kernel_rfl) (by kernel_rfl) (by kernel_rfl) (fun _ _ _ h => h) rfl rfl ⟨hB, hz38, hx⟩ (fun w' h' => exec_index_part4 _ _ rfl 3 (segm ts[i] (a * 36) 36) rfl rfl (by omega)) ?_
        go_frame
        refine y_yield 7 (some 30) (.bool false) rfl (by kernel_rfl) (by kernel_rfl) (by kernel_rfl) (fun _ _ _ h => h) rfl rfl ⟨hB, hz38, hx⟩ (fun w' h' => exec_neqF _ _ _ rfl (partL (segm ts[i] (a * 36) 36) 3) (List.replicate 9 0) rfl rfl (partL_len _ _) (by simp) false HTp.out) ?_
        go_frame
        refine y_done (by kernel_rfl) ?_ _
        go_upto_region 10 with (fail)
        refine wp_region_lit ?_
        refine ls_ex (some 32) (.int .i64 (i + 1)) rfl rfl (exec_add _ _ _ _ rfl i 1 (i + 1) rfl rfl (IntWalk.i64_in _ (by omega))) ?_
        go_frame
        refine ls_ex (some 19) (.int .i64 (i + 1)) rfl rfl (exec_move _ rfl (.int .i64 (i + 1)) rfl) ?_
        go_frame
        refine wpList_nil ?_
        go_wp2_with fail
        go_roundw
        case rel => exact ⟨i + 1, by omega, by go_num, HA9, hB, h0, hx, h1⟩
        case measure => simp [intOf]; omega
      | true =>
        have HTp : Hid ((!(partL (segm ts[i] (a * 36) 36) 3 == List.replicate 9 0)) = true) := Lib.hid (by rw [topS_part]; exact htp)
        have HTop := Lib.hid htp
        clear htp
        have HC3 : Hid (raiCode p n m k ts (a : Int) = 3) := Lib.hid (by unfold raiCode; rw [Hs.out, Hin.out, Int.toNat_natCast, any_at hlt HTop.out]; rfl)
        go_upto_region 6 with (fail)
        refine wp_region_lit ?_
        refine ls_ex (some 20) (.bool true) rfl rfl (exec_lss _ _ _ _ rfl i ts.length rfl rfl true (decide_eq_true (by omega))) ?_
        go_frame
        refine wpList_nil ?_
        go_upto_region 7 with (fail)
        refine wp_region_lit ?_
        refine ls_ex (some 21) (.pointer (some ⟨b, off + i * 108, none⟩)) rfl rfl (exec_index_slice _ 63 _ _ rfl b off ts.length c i 108 rfl rfl Try.underlying27 (by kernel_rfl) (by omega)) ?_
        go_frame
        refine ls_ex (some 22) (.agg (u8s (ts[i]))) rfl rfl (exec_load_cells 63 _ rfl b (off + i * 108) rfl ts[i] _ 108 (RdT.c108 (hR.keep hB) hlt) Try.underlying63 rfl (by kernel_rfl) Hq108.out) ?_
        go_frame
        refine ls_op rfl (fun K' hK' => ?_)
        have lz56 := hB.size
        have lz57 := h0.lt
        have lz58 := hx.lt
        have lz59 := h1.lt
        refine wp_new (some 7) rfl (al_impl_Twig rfl) (fun Wz60 nnz61 => ?_)
        have bz62 := nnz61.below (Below.refl _ _) (Nat.le_refl _)
        replace hB := below_after hB bz62
        replace h0 := h0.after bz62
        replace hx := hx.after bz62
        replace h1 := h1.after bz62
        have hz63 : At Wz60 wr.heap.size (.cells (u8s (List.replicate 108 0)) 63 (0, 0)) := nnz61.at_
        refine hK' _ _ ?_
        clear hK' K' nnz61 bz62
        go_frame
        refine ls_op rfl (fun K' hK' => ?_)
        refine wp_store_bytes 63 _ _ rfl rfl wr.heap.size rfl (ts[i]) rfl _ _ hz63 108 (by kernel_rfl) Hq108.out (by simp) (fun Wz64 pz65 => ?_)
        replace hB := pz65.below hB (by omega)
        replace h0 := pz65.other h0 (by omega)
        replace hx := pz65.other hx (by omega)
        replace h1 := pz65.other h1 (by omega)
        replace hz63 : At Wz64 wr.heap.size (.cells (u8s (ts[i])) 63 (0, 0)) := pz65.at_
        refine hK' _ _ ?_
        clear hK' K' pz65
        refine wpList_nil ?_
        go_upto_region 8 with (fail)
        refine wp_region_y (zs := []) (S := fun w' => Below w.heap.size w w' ∧ At w' wr.heap.size (.cells (u8s (ts[i])) 63 (0, 0)) ∧ At w' Wz2.heap.size (.cells #[.int .i64 a] 2 (0, 0))) (S2 := fun w' => True) (by kernel_rfl) ?_
        change wpAnyY _ _ _ _ _ _ _ _ _ _ (World.drew _)
        generalize hwdz66 : World.drew _ = wdz66
        replace hB : Below w.heap.size w wdz66 := by rw [← hwdz66]; exact hB.drew
        replace h0 : At wdz66 w.heap.size (.cells #[.int .i64 p, .int .i64 n, .int .i64 m, .int .i64 k, .slice (some ⟨b, off, none⟩) ts.length c] 29 (0, 0)) := by rw [← hwdz66]; exact h0
        replace hx : At wdz66 Wz2.heap.size (.cells #[.int .i64 a] 2 (0, 0)) := by rw [← hwdz66]; exact hx
        replace h1 : At wdz66 Wz8.heap.size (.cells #[.int .i64 0, .int .i64 0, .int .i64 0, .int .i64 0, .slice none 0 0] 29 (0, 0)) := by rw [← hwdz66]; exact h1
        replace hz63 : At wdz66 wr.heap.size (.cells (u8s (ts[i])) 63 (0, 0)) := by rw [← hwdz66]; exact hz63
        clear hwdz66
        refine y_yield 0 (some 23) (.agg (u8s (ts[i]))) rfl (by kernel_rfl) (by kernel_rfl) (by kernel_rfl) (fun _ _ _ h => h) rfl rfl ⟨hB, hz63, hx⟩ (fun w' h' => exec_load_all 63 _ rfl wr.heap.size rfl _ _ _ h'.2.1 Try.underlying63 rfl 108 (by kernel_rfl) ((u8s_size _).trans Hq108.out)) ?_
        go_frame
        refine y_yield 2 (some 25) (.int .i64 a) rfl (by kernel_rfl) (by kernel_rfl) (by kernel_rfl) (fun _ _ _ h => h) rfl rfl ⟨hB, hz63, hx⟩ (fun w' h' => exec_load_one 2 _ rfl Wz2.heap.size 0 rfl (.int .i64 a) _ Try.underlying2 rfl (h'.2.2.at_ 0)) ?_
        go_frame
        refine y_yield 6 (some 29) (.agg (u8s (List.replicate 9 0))) rfl (by kernel_rfl) (by kernel_rfl) (by kernel_rfl) (fun _ _ _ h => h) rfl rfl ⟨hB, hz63, hx⟩ (fun w' h' => exec_build_nil 71 rfl _ (by kernel_rfl)) ?_
        go_frame
        refine y_oper 1 (by kernel_rfl) rfl rfl (fun K' hK' => ?_)
        have lz69 := hB.size
        have lz70 := h0.lt
        have lz71 := hx.lt
        have lz72 := h1.lt
        have lz73 := hz63.lt
        refine wp_call1 (some 24) rfl 53 _ _ rfl (fun args w => by kernel_rfl) _ rfl _ (seriesOf_c ts[i] hq _) (fun e Wz67 h => ?_)
        obtain ⟨rfl, bz68⟩ := h
        replace hB := below_after hB bz68
        replace h0 := h0.after bz68
        replace hx := hx.after bz68
        replace h1 := h1.after bz68
        replace hz63 := hz63.after bz68
        clear bz68
        refine ⟨_, rfl, ?_⟩
        refine hK' _ _ ⟨hB, hz63, hx⟩ (fun _ => trivial) ?_
        clear hK' K'
        go_frame
        refine y_yield 3 (some 26) (.agg (u8s (segm ts[i] (a * 36) 36))) rfl (by kernel_rfl) (by kernel_rfl) (by kernel_rfl) (fun _ _ _ h => h) rfl rfl ⟨hB, hz63, hx⟩ (fun w' h' => exec_index_seg 82 61 _ _ rfl 3 a 36 ts[i] _ rfl rfl Try.underlying82 Try.underlying61 rfl (by kernel_rfl) ha3) ?_
        go_frame
        refine y_oper 4 (by kernel_rfl) rfl rfl (fun K' hK' => ?_)
        have lz76 := hB.size
        have lz77 := h0.lt
        have lz78 := hx.lt
        have lz79 := h1.lt
        have lz80 := hz63.lt
        refine wp_call1 (some 27) rfl 52 _ _ rfl (fun args w => by kernel_rfl) _ rfl _ (partsOf_c (segm ts[i] (a * 36) 36) hs36 _) (fun e Wz74 h => ?_)
        obtain ⟨rfl, bz75⟩ := h
        replace hB := below_after hB bz75
        replace h0 := h0.after bz75
        replace hx := hx.after bz75
        replace h1 := h1.after bz75
        replace hz63 := hz63.after bz75
        clear bz75
        refine ⟨_, rfl, ?_⟩
        refine hK' _ _ ⟨hB, hz63, hx⟩ (fun _ => trivial) ?_
        clear hK' K'
        go_frame
        refine y_yield 5 (some 28) (.agg (u8s (partL (segm ts[i] (a * 36) 36) 3))) rfl (by kernel_rfl) (by kernel_rfl) (by kernel_rfl) (fun _ _ _ h => h) rfl rfl ⟨hB, hz63, hx⟩ (fun w' h' => exec_index_part4 _ _ rfl 3 (segm ts[i] (a * 36) 36) rfl rfl (by omega)) ?_
        go_frame
        refine y_yield 7 (some 30) (.bool true) rfl (by kernel_rfl) (by kernel_rfl) (by kernel_rfl) (fun _ _ _ h => h) rfl rfl ⟨hB, hz63, hx⟩ (fun w' h' => exec_neqF _ _ _ rfl (partL (segm ts[i] (a * 36) 36) 3) (List.replicate 9 0) rfl rfl (partL_len _ _) (by simp) true HTp.out) ?_
        go_frame
        refine y_done (by kernel_rfl) ?_ _
        go_upto_region 9 with (fail)
        refine wp_region_lit ?_
        refine ls_ex (some 31) (.agg #[.int .i64 0, .int .i64 0, .int .i64 0, .int .i64 0, .slice none 0 0]) rfl rfl (exec_build_nil 29 rfl _ (by kernel_rfl)) ?_
        go_frame
        refine ls_op rfl (fun K' hK' => ?_)
        refine wp_store_all 29 _ _ rfl rfl Wz8.heap.size rfl #[.int .i64 0, .int .i64 0, .int .i64 0, .int .i64 0, .slice none 0 0] rfl _ _ h1 5 (by kernel_rfl) rfl rfl (one5 _ _ _ _ _ _ _) (fun Wz81 pz82 => ?_)
        replace hB := pz82.below hB (by omega)
        replace h0 := pz82.other h0 (by omega)
        replace hx := pz82.other hx (by omega)
        replace hz63 := pz82.other hz63 (by omega)
        replace h1 : At Wz81 Wz8.heap.size (.cells #[.int .i64 0, .int .i64 0, .int .i64 0, .int .i64 0, .slice none 0 0] 29 (0, 0)) := pz82.at_
        refine hK' _ _ ?_
        clear hK' K' pz82
        refine ls_ex (some 5) (.int .i64 3) rfl rfl (exec_assign _ rfl (.int .i64 3) rfl) ?_
        go_frame
        refine wpList_nil ?_
        go_wp2_with fail
        refine bodyPost_ret (results_at2 rfl _ _ Wz8.heap.size _ _ _ rfl _ rfl h1 Try.underlying29 rfl 5 (by kernel_rfl) rfl) rfl ?_
        unfold ResD outZ outL
        rw [HC3.out]
        exact ⟨_, rfl, OwnT.nil _ _, hB⟩
    · have HC : Hid (raiCode p n m k ts (a : Int) = 0) := Lib.hid (by have h := HA.out; rw [show i = ts.length by omega, List.take_length] at h; unfold raiCode; rw [Hs.out, Hin.out, Int.toNat_natCast, h]; rfl)
      go_upto_region 6 with (fail)
      refine wp_region_lit ?_
      refine ls_ex (some 20) (.bool false) rfl rfl (exec_lss _ _ _ _ rfl i ts.length rfl rfl false (decide_eq_false (by omega))) ?_
      go_frame
      refine wpList_nil ?_
      go_upto_region 11 with (fail)
      refine wp_region_lit ?_
      refine ls_ex (some 33) (.agg #[.int .i64 p, .int .i64 n, .int .i64 m, .int .i64 k, .slice A ts.length c]) rfl rfl (exec_load_all 29 _ rfl w.heap.size rfl _ _ _ h0 Try.underlying29 rfl 5 (by kernel_rfl) rfl) ?_
      go_frame
      refine ls_ex (some 34) (.func (.func 55) #[] #[.pointer (some ⟨Wz2.heap.size, 0, none⟩)]) rfl rfl (exec_mkfn1 _ _ rfl (.pointer (some ⟨Wz2.heap.size, 0, none⟩)) rfl) ?_
      go_frame
      refine ls_op rfl (fun K' hK' => ?_)
      have lz85 := hB.size
      have lz86 := h0.lt
      have lz87 := hx.lt
      have lz88 := h1.lt
      have lo9 := hB.size
      refine wp_call2 (some 35) rfl 54 _ _ _ rfl (fun args w => by kernel_rfl) _ _ rfl rfl _ (withEachSeries_c p n m k A c ts 55 #[.pointer (some ⟨Wz2.heap.size, 0, none⟩)] (raiG a) (raiQ a) _ (hR.keep hB) hlen (fun _ _ => by kernel_rfl) (raiQ_ok a) (raiG_ok a) (fun b s w' _ hs hw => raise1_c a b Wz2.heap.size s hs w' (hx.after hw))) (fun e Wz83 h => ?_)
      obtain ⟨v9, rfl, ho, bz84⟩ := h
      replace hB := below_after hB bz84
      replace h0 := h0.after bz84
      replace hx := hx.after bz84
      replace h1 := h1.after bz84
      obtain ⟨A9, c9, rfl⟩ := OwnT.rdN ho (n := ts.length) (by simp)
      clear bz84
      refine ⟨_, rfl, ?_⟩
      refine hK' _ _ ?_
      clear hK' K'
      go_frame
      refine ls_op rfl (fun K' hK' => ?_)
      refine wp_store_all 29 _ _ rfl rfl Wz8.heap.size rfl #[.int .i64 p, .int .i64 n, .int .i64 m, .int .i64 k, .slice A9 ts.length c9] rfl _ _ h1 5 (by kernel_rfl) rfl rfl (one5 _ _ _ _ _ _ _) (fun Wz89 pz90 => ?_)
      replace hB := pz90.below hB (by omega)
      replace h0 := pz90.other h0 (by omega)
      replace hx := pz90.other hx (by omega)
      replace ho := ho.put pz90 (ho.off h1 (by decide))
      replace h1 : At Wz89 Wz8.heap.size (.cells #[.int .i64 p, .int .i64 n, .int .i64 m, .int .i64 k, .slice A9 ts.length c9] 29 (0, 0)) := pz90.at_
      refine hK' _ _ ?_
      clear hK' K' pz90
      refine ls_ex (some 5) (.int .i64 0) rfl rfl (exec_assign _ rfl (.int .i64 0) rfl) ?_
      go_frame
      refine wpList_nil ?_
      go_wp2_with fail
      refine bodyPost_ret (results_at2 rfl _ _ Wz8.heap.size _ _ _ rfl _ rfl h1 Try.underlying29 rfl 5 (by kernel_rfl) rfl) rfl ?_
      unfold ResD outZ outL
      rw [HC.out]
      exact ⟨_, rfl, ho.mono (by omega), hB⟩
theorem specRaiseBorder_c (p n m k : Int) (A : Option Addr) (c : Nat) (ts : List (List Nat)) (x : Int) (w : World) (hR : RdT w A ts) (hlen : ts.length ≤ 1048576) : Calls Try.prog 21 #[.agg #[.int .i64 p, .int .i64 n, .int .i64 m, .int .i64 k, .slice A ts.length c], .int .i64 x] w (ResD w (outZ (raiCode p n m k ts x) p) (outZ (raiCode p n m k ts x) n) (outZ (raiCode p n m k ts x) m) (outZ (raiCode p n m k ts x) k) (outL (raiCode p n m k ts x) (ts.map (upT x.toNat))) (raiCode p n m k ts x)) := by
  cases hs : borderB p n m k ts with
  | false => exact specRaise_a p n m k A c ts x w hR hlen hs
  | true =>
    cases hin : (decide (0 ≤ x) && decide (x ≤ 2)) with
    | false => exact specRaise_b p n m k A c ts x w hR hlen hs hin
    | true =>
      simp only [Bool.and_eq_true, decide_eq_true_eq] at hin
      obtain ⟨a, rfl⟩ : ∃ a : Nat, x = (a : Int) := ⟨x.toNat, by omega⟩
      exact specRaise_v p n m k A c ts a w hR hlen hs (by omega)
theorem implRaiseBorder_c (p n m k : Int) (A : Option Addr) (c : Nat) (ts : List (List Nat)) (x : Int) (w : World) (hR : RdT w A ts) (hlen : ts.length ≤ 1048576) : Calls Try.prog 22 #[.agg #[.int .i64 p, .int .i64 n, .int .i64 m, .int .i64 k, .slice A ts.length c], .int .i64 x] w (ResD w (outZ (raiCode p n m k ts x) p) (outZ (raiCode p n m k ts x) n) (outZ (raiCode p n m k ts x) m) (outZ (raiCode p n m k ts x) k) (outL (raiCode p n m k ts x) (ts.map (upT x.toNat))) (raiCode p n m k ts x)) := by
  cases hs : borderB p n m k ts with
  | false => exact implRaise_a p n m k A c ts x w hR hlen hs
  | true =>
    cases hin : (decide (0 ≤ x) && decide (x ≤ 2)) with
    | false => exact implRaise_b p n m k A c ts x w hR hlen hs hin
    | true =>
      simp only [Bool.and_eq_true, decide_eq_true_eq] at hin
      obtain ⟨a, rfl⟩ : ∃ a : Nat, x = (a : Int) := ⟨x.toNat, by omega⟩
      exact implRaise_v p n m k A c ts a w hR hlen hs (by omega)
theorem rai_bytes {p n m k x : Int} {ts : List (List Nat)} (h : ∀ q ∈ ts, Bytes 108 q) : ∀ r ∈ outL (raiCode p n m k ts x) (ts.map (upT x.toNat)), Bytes 108 r := outL_bytes fun _ r hr => by
  obtain ⟨q, hq, rfl⟩ := List.mem_map.1 hr
  exact upT_bytes (h q hq)
theorem rai_len {p n m k x : Int} {ts : List (List Nat)} : (outL (raiCode p n m k ts x) (ts.map (upT x.toNat))).length ≤ 1048576 := outL_len fun h => by
  unfold raiCode at h
  split at h
  · next h2 =>
    have := (borderB_all h2).2.1
    rw [List.length_map]
    omega
  · omega
end Go.Proofs.Ytlpdglmjejfmhaa
