/-
  What answers that are methods want; slices.Clone of products; methodOf; KaratsubaMethod of both sides. (Made by mkmt3.py.)
-/
import Derived.Test.YtdbcgbbokodndaaMt2
import Derived.Test.YtdbcgbbokodndaaOwnSet
namespace Go.Proofs.Ytdbcgbbokodndaa
open Go.RowKit
set_option maxRecDepth 100000
attribute [local irreducible] wpList
theorem Own.rdN2 {n : Nat} {w : World} {lo : Nat} {v : Value} {qs : List (List Nat)} (h : Own w lo v qs) (he : qs.length = n) : ∃ A c, v = .slice A n c := by
  subst he
  rcases h.shp with ⟨rfl, h0⟩ | ⟨g, c, rfl⟩
  · exact ⟨none, 0, by rw [h0]⟩
  · exact ⟨_, _, rfl⟩
theorem grown_put {w W W' : World} {r : Option Nat} {g : Nat} {o : Obj} (h : w.grownBy W r) (hp : Put W W' g o) (hg : w.heap.size ≤ g) : w.grownBy W' r := by
  have hb : Below w.heap.size W W' := hp.below (Below.refl _ _) hg
  exact ⟨hb.os.trans h.os, hb.tape.trans h.tape, hb.output.trans h.output, Nat.le_trans h.size hb.size, fun k hk hne => (hb.block k hk).trans (h.block k hk hne)⟩
theorem wp_appP {o : Oper} {a : Act} {w : World} {K : Act → World → Prop} {Q : Exit → Act → World → Prop} (d : Option Tmp) (hd : o.dst = d) (s x : Operand) (ho : o.op = .call { callee := .builtin .append, args := #[s, x], argTypes := #[26, 26] })
    {lo : Nat} (sl : Value) (qs : List (List Nat)) (q : List Nat) (hs : a.eval s = sl) (hown : Own w lo sl qs) (g : Nat) (hx : a.eval x = .slice (some ⟨g, 0, none⟩) 1 1) (hg : At w g (.cells (u8s q) 54 (0, 0))) (hq : q.length = 27) (hle : qs.length ≤ 1000000) (hlo : lo ≤ w.heap.size)
    (h : ∀ v' w', Own w' lo v' (qs ++ [q]) → w.grownBy w' sl.ownBlock → K (a.put d v') w') : Oper.wp Try.prog o a w K Q := by
  obtain ⟨i0, hi, hz0, hz1, hz2⟩ := info_parts infoProd
  refine wp_append' d hd s x 26 ho lo 54 i0 (.agg (u8s (List.replicate 27 0))) 27 27 Try.underlying26 hi hz0 hz1 hz2 rfl (by decide) sl _ _ hs hown ⟨g, 0, none⟩ 1 1 (u8s q).toList hx (by rw [Array.length_toList, u8s_size, hq]) ?_ (u8s_one q) (by unfold maxLen; omega) (by omega) hlo ?_
  · intro j u hu
    rw [add_none, Nat.zero_add, hg.at_ j, ← Array.getElem?_toList]
    exact hu
  · intro v1 w8 own8 gr8 _
    refine h v1 w8 ?_ gr8
    unfold Own
    rw [u8s_snoc, List.length_append]
    exact own8
theorem exec_prodC {o : Oper} {a : Act} {w : World} (x y z : Operand) (ho : o.op = .build 54 #[(0, x), (1, y), (2, z)]) (p q r : List Nat)
    (hx : a.eval x = .agg (u8s p)) (hy : a.eval y = .agg (u8s q)) (hz : a.eval z = .agg (u8s r)) (hp : p.length = 9) (hq : q.length = 9) (hr : r.length = 9) :
    (execOp a.eval o).run Try.prog w = .ok (.value (.agg (u8s (cat3 p q r)))) w := exec_prod x y z ho p q r hx hy hz hp hq hr
def hZ (code x : Int) : Int := if code = 0 then x else 0
def hL (code : Int) (l : List (List Nat)) : List (List Nat) := if code = 0 then l else []
theorem hL_len {code : Int} {l : List (List Nat)} {N : Nat} (h : code = 0 → l.length ≤ N) : (hL code l).length ≤ N := by
  unfold hL
  split
  · exact h (by assumption)
  · simp
theorem hL_bytes {code : Int} {l : List (List Nat)} (h : code = 0 → ∀ r ∈ l, Bytes 27 r) : ∀ r ∈ hL code l, Bytes 27 r := by
  unfold hL
  split
  · exact h (by assumption)
  · simp
theorem exec_build_meth {o : Oper} {a : Act} {w : World} (x y z u v : Operand) (ho : o.op = .build 28 #[(0, x), (1, y), (2, z), (3, u), (4, v)]) (p n m k : Int) (A : Option Addr) (l c : Nat) (hx : a.eval x = .int .i64 p) (hy : a.eval y = .int .i64 n) (hz : a.eval z = .int .i64 m) (hu : a.eval u = .int .i64 k) (hv : a.eval v = .slice A l c) :
    (execOp a.eval o).run Try.prog w = .ok (.value (.agg #[.int .i64 p, .int .i64 n, .int .i64 m, .int .i64 k, .slice A l c])) w := by
  have hb : Try.prog.built 28 [(0, .int .i64 p), (1, .int .i64 n), (2, .int .i64 m), (3, .int .i64 k), (4, .slice A l c)] = some #[.int .i64 p, .int .i64 n, .int .i64 m, .int .i64 k, .slice A l c] := by kernel_rfl
  unfold execOp
  have := run_build (P := Try.prog) w 28 #[(0, .int .i64 p), (1, .int .i64 n), (2, .int .i64 m), (3, .int .i64 k), (4, .slice A l c)] _ hb
  simp [ho, hx, hy, hz, hu, hv, this]
theorem exec_build_box3 {o : Oper} {a : Act} {w : World} (x y z : Operand) (ho : o.op = .build 68 #[(0, x), (1, y), (2, z)]) (n m k : Int) (hx : a.eval x = .int .i64 n) (hy : a.eval y = .int .i64 m) (hz : a.eval z = .int .i64 k) :
    (execOp a.eval o).run Try.prog w = .ok (.value (.agg #[.int .i64 n, .int .i64 m, .int .i64 k])) w := by
  have hb : Try.prog.built 68 [(0, .int .i64 n), (1, .int .i64 m), (2, .int .i64 k)] = some #[.int .i64 n, .int .i64 m, .int .i64 k] := by kernel_rfl
  unfold execOp
  have := run_build (P := Try.prog) w 68 #[(0, .int .i64 n), (1, .int .i64 m), (2, .int .i64 k)] _ hb
  simp [ho, hx, hy, hz, this]
theorem methodOf_c (p i j k : Int) (A : Option Addr) (l c : Nat) (w : World) : Calls Try.prog 56 #[.int .i64 p, .agg #[.int .i64 i, .int .i64 j, .int .i64 k], .slice A l c] w fun e w' => e = .returned (.agg #[.int .i64 p, .int .i64 i, .int .i64 j, .int .i64 k, .slice A l c]) ∧ Below w.heap.size w w' := by
  go_enter Try.func56, Try.ntmps56
  go_wp2_with fail
  refine bodyPost_ret (results_at rfl _ _ (w.heap.size + 1) _ _ _ rfl (al2_1 _ _ _) Try.underlying28 rfl 5 (by kernel_rfl) rfl) rfl ?_
  exact ⟨rfl, below2 _ _ _⟩
/-- Karatsuba's products, with p - 1 told. -/
def kar1 (l : Nat) : List Nat := [1, 0, 0, 0, 0, 0, 0, 0, 0, 1, 0, 0, 0, 0, 0, 0, 0, 0, 1, l, 0, 0, 0, 0, 0, 0, 0]
def kar2 (l : Nat) : List Nat := [0, 1, 0, 0, 0, 0, 0, 0, 0, 0, 1, 0, 0, 0, 0, 0, 0, 0, 0, l, 1, 0, 0, 0, 0, 0, 0]
def kar3 : List Nat := [1, 1, 0, 0, 0, 0, 0, 0, 0, 1, 1, 0, 0, 0, 0, 0, 0, 0, 0, 1, 0, 0, 0, 0, 0, 0, 0]
def kar (l : Nat) : List (List Nat) := [kar1 l, kar2 l, kar3]
def karCode (p : Int) : Int := if primeB p = true then 0 else 2
theorem kar_bytes {p : Int} : ∀ r ∈ hL (karCode p) (kar (p - 1).toNat), Bytes 27 r := hL_bytes fun h r hr => by
  have hp : p = 2 ∨ p = 3 ∨ p = 5 := by
    unfold karCode at h
    split at h
    · rename_i h2
      simp only [primeB, Bool.or_eq_true, beq_iff_eq] at h2
      omega
    · omega
  simp only [kar, List.mem_cons, List.not_mem_nil, or_false] at hr
  rcases hp with rfl | rfl | rfl <;> rcases hr with rfl | rfl | rfl <;> exact ⟨rfl, by decide⟩
theorem kar_len {p : Int} : (hL (karCode p) (kar (p - 1).toNat)).length ≤ 1048576 := hL_len fun _ => by simp [kar]
theorem exec_form1 {o : Oper} {a : Act} {w : World} (x : Operand) (ho : o.op = .build 52 #[(0, x)]) (f : List Nat) (y : Int) (hx : a.eval x = .int .u8 y) (hb : Try.prog.built 52 [(0, .int .u8 y)] = some (u8s f)) : (execOp a.eval o).run Try.prog w = .ok (.value (.agg (u8s f))) w := by
  unfold execOp
  have := run_build (P := Try.prog) w 52 #[(0, .int .u8 y)] _ hb
  simp [ho, hx, this]
theorem exec_form2 {o : Oper} {a : Act} {w : World} (x x2 : Operand) (ho : o.op = .build 52 #[(0, x), (1, x2)]) (f : List Nat) (y y2 : Int) (hx : a.eval x = .int .u8 y) (hx2 : a.eval x2 = .int .u8 y2) (hb : Try.prog.built 52 [(0, .int .u8 y), (1, .int .u8 y2)] = some (u8s f)) : (execOp a.eval o).run Try.prog w = .ok (.value (.agg (u8s f))) w := by
  unfold execOp
  have := run_build (P := Try.prog) w 52 #[(0, .int .u8 y), (1, .int .u8 y2)] _ hb
  simp [ho, hx, hx2, this]
theorem exec_form3 {o : Oper} {a : Act} {w : World} (x x2 x3 : Operand) (ho : o.op = .build 52 #[(0, x), (1, x2), (2, x3)]) (f : List Nat) (y y2 y3 : Int) (hx : a.eval x = .int .u8 y) (hx2 : a.eval x2 = .int .u8 y2) (hx3 : a.eval x3 = .int .u8 y3) (hb : Try.prog.built 52 [(0, .int .u8 y), (1, .int .u8 y2), (2, .int .u8 y3)] = some (u8s f)) : (execOp a.eval o).run Try.prog w = .ok (.value (.agg (u8s f))) w := by
  unfold execOp
  have := run_build (P := Try.prog) w 52 #[(0, .int .u8 y), (1, .int .u8 y2), (2, .int .u8 y3)] _ hb
  simp [ho, hx, hx2, hx3, this]
theorem exec_conv8k {o : Oper} {a : Act} {w : World} (x : Operand) (ho : o.op = .convert 2 5 x) (m : Int) (y : Nat) (hx : a.eval x = .int .i64 m) (hy : y < 256) (hm : m = (y : Int)) : (execOp a.eval o).run Try.prog w = .ok (.value (.int .u8 (y : Int))) w := by
  subst hm
  have hw : IntKind.u8.wrap (y : Int) = (y : Int) := by unfold IntKind.wrap; simp [IntKind.signed, IntKind.bits]; omega
  unfold execOp
  simp only [ho, hx]
  simp [go_sem, Try.underlying5, Try.underlying2, hw]
theorem exec_kar {o : Oper} {a : Act} {w : World} (x y z : Operand) (ho : o.op = .buildSlice 26 3 #[(0, x), (1, y), (2, z)]) (l : Nat) (hl : l = 1 ∨ l = 2 ∨ l = 4) (hx : a.eval x = .agg (u8s (kar1 l))) (hy : a.eval y = .agg (u8s (kar2 l))) (hz : a.eval z = .agg (u8s kar3)) :
    (execOp a.eval o).run Try.prog w = .ok (.value (.slice (some ⟨w.heap.size, 0, none⟩) 3 3)) (w.alloc (.cells (u8s (kar l).flatten) 54 (0, 0))) := by
  obtain ⟨i, hi0, hz0, h1, h2⟩ := info_parts infoProd
  have h := run_buildSlice (P := Try.prog) w 26 54 3 #[(0, .agg (u8s (kar1 l))), (1, .agg (u8s (kar2 l))), (2, .agg (u8s kar3))] (u8s (kar l).flatten) i (.agg (u8s (List.replicate 27 0))) Try.underlying26 hi0 hz0 (by rw [h1]; omega) (by rw [h1]; omega) (by rw [h1]; rcases hl with rfl | rfl | rfl <;> kernel_rfl)
  unfold execOp
  simp [ho, hx, hy, hz, h]
theorem al_impl_Method {o : Oper} {a : Act} {w : World} (ho : o.op = .alloc 28) : (execOp a.eval o).run Try.prog w = .ok (.value (.pointer (some ⟨w.heap.size, 0, none⟩))) (w.alloc (.cells #[.int .i64 0, .int .i64 0, .int .i64 0, .int .i64 0, .slice none 0 0] 28 (0, 0))) := by
  unfold execOp
  rw [ho]
  kernel_rfl
set_option maxHeartbeats 4000000 in
theorem l09Kar_2 (w : World) :
    Calls Try.prog 55 #[.int .i64 2] w (fun e w' => ∃ v, e = .returned (.agg #[.int .i64 2, .int .i64 2, .int .i64 2, .int .i64 3, v]) ∧ Own w' w.heap.size v (kar 1) ∧ Below w.heap.size w w') := by
  have hB := Below.refl w.heap.size w
  skip
  go_enter Try.func55, Try.ntmps55
  go_upto_region 0 with (fail)
  refine wp_region_lit ?_
  refine ls_op rfl (fun K' hK' => ?_)
  have lz1 := hB.size
  refine wp_new (some 2) rfl (al_impl_Method rfl) (fun Wz2 nnz3 => ?_)
  have bz4 := nnz3.below (Below.refl _ _) (Nat.le_refl _)
  replace hB := below_after hB bz4
  have hz5 : At Wz2 w.heap.size (.cells #[.int .i64 0, .int .i64 0, .int .i64 0, .int .i64 0, .slice none 0 0] 28 (0, 0)) := nnz3.at_
  refine hK' _ _ ?_
  clear hK' K' nnz3 bz4
  go_frame
  refine wpList_nil ?_
  go_upto_region 1 with (fail)
  refine wp_region_lit ?_
  refine ls_ex (some 4) (.int .i64 2) rfl rfl (exec_move _ rfl (.int .i64 2) rfl) ?_
  go_frame
  refine ls_ex (some 5) (.int .i64 1) rfl rfl (exec_sub _ _ _ _ rfl 2 1 1 rfl rfl rfl) ?_
  go_frame
  refine ls_ex (some 6) (.int .u8 1) rfl rfl (exec_conv8k _ rfl 1 1 rfl (by decide) rfl) ?_
  go_frame
  refine ls_ex (some 3) (.int .u8 1) rfl rfl (exec_assign _ rfl (.int .u8 1) rfl) ?_
  go_frame
  refine wpList_nil ?_
  go_upto_region 2 with (fail)
  refine wp_region_lit ?_
  refine ls_ex (some 7) (.int .i64 2) rfl rfl (exec_move _ rfl (.int .i64 2) rfl) ?_
  go_frame
  refine ls_ex (some 8) (.agg (u8s ([1, 0, 0, 0, 0, 0, 0, 0, 0]))) rfl rfl (exec_form1 _ rfl ([1, 0, 0, 0, 0, 0, 0, 0, 0]) 1 rfl (by kernel_rfl)) ?_
  go_frame
  refine ls_ex (some 9) (.agg (u8s ([1, 0, 0, 0, 0, 0, 0, 0, 0]))) rfl rfl (exec_form1 _ rfl ([1, 0, 0, 0, 0, 0, 0, 0, 0]) 1 rfl (by kernel_rfl)) ?_
  go_frame
  refine ls_ex (some 10) (.int .u8 1) rfl rfl (exec_move _ rfl (.int .u8 1) rfl) ?_
  go_frame
  refine ls_ex (some 11) (.agg (u8s ([1, 1, 0, 0, 0, 0, 0, 0, 0]))) rfl rfl (exec_form2 _ _ rfl ([1, 1, 0, 0, 0, 0, 0, 0, 0]) 1 1 rfl rfl (by kernel_rfl)) ?_
  go_frame
  refine ls_ex (some 12) (.agg (u8s (kar1 1))) rfl rfl (exec_prod _ _ _ rfl ([1, 0, 0, 0, 0, 0, 0, 0, 0]) ([1, 0, 0, 0, 0, 0, 0, 0, 0]) ([1, 1, 0, 0, 0, 0, 0, 0, 0]) rfl rfl rfl rfl rfl rfl) ?_
  go_frame
  refine ls_ex (some 13) (.agg (u8s ([0, 1, 0, 0, 0, 0, 0, 0, 0]))) rfl rfl (exec_form2 _ _ rfl ([0, 1, 0, 0, 0, 0, 0, 0, 0]) 0 1 rfl rfl (by kernel_rfl)) ?_
  go_frame
  refine ls_ex (some 14) (.agg (u8s ([0, 1, 0, 0, 0, 0, 0, 0, 0]))) rfl rfl (exec_form2 _ _ rfl ([0, 1, 0, 0, 0, 0, 0, 0, 0]) 0 1 rfl rfl (by kernel_rfl)) ?_
  go_frame
  refine ls_ex (some 15) (.int .u8 1) rfl rfl (exec_move _ rfl (.int .u8 1) rfl) ?_
  go_frame
  refine ls_ex (some 16) (.agg (u8s ([0, 1, 1, 0, 0, 0, 0, 0, 0]))) rfl rfl (exec_form3 _ _ _ rfl ([0, 1, 1, 0, 0, 0, 0, 0, 0]) 0 1 1 rfl rfl rfl (by kernel_rfl)) ?_
  go_frame
  refine ls_ex (some 17) (.agg (u8s (kar2 1))) rfl rfl (exec_prod _ _ _ rfl ([0, 1, 0, 0, 0, 0, 0, 0, 0]) ([0, 1, 0, 0, 0, 0, 0, 0, 0]) ([0, 1, 1, 0, 0, 0, 0, 0, 0]) rfl rfl rfl rfl rfl rfl) ?_
  go_frame
  refine ls_ex (some 18) (.agg (u8s ([1, 1, 0, 0, 0, 0, 0, 0, 0]))) rfl rfl (exec_form2 _ _ rfl ([1, 1, 0, 0, 0, 0, 0, 0, 0]) 1 1 rfl rfl (by kernel_rfl)) ?_
  go_frame
  refine ls_ex (some 19) (.agg (u8s ([1, 1, 0, 0, 0, 0, 0, 0, 0]))) rfl rfl (exec_form2 _ _ rfl ([1, 1, 0, 0, 0, 0, 0, 0, 0]) 1 1 rfl rfl (by kernel_rfl)) ?_
  go_frame
  refine ls_ex (some 20) (.agg (u8s ([0, 1, 0, 0, 0, 0, 0, 0, 0]))) rfl rfl (exec_form2 _ _ rfl ([0, 1, 0, 0, 0, 0, 0, 0, 0]) 0 1 rfl rfl (by kernel_rfl)) ?_
  go_frame
  refine ls_ex (some 21) (.agg (u8s (kar3))) rfl rfl (exec_prod _ _ _ rfl ([1, 1, 0, 0, 0, 0, 0, 0, 0]) ([1, 1, 0, 0, 0, 0, 0, 0, 0]) ([0, 1, 0, 0, 0, 0, 0, 0, 0]) rfl rfl rfl rfl rfl rfl) ?_
  go_frame
  refine ls_op rfl (fun K' hK' => ?_)
  have lz6 := hB.size
  have lz7 := hz5.lt
  refine wp_new (some 22) rfl (exec_kar _ _ _ rfl 1 (by decide) rfl rfl rfl) (fun Wz8 nnz9 => ?_)
  have bz10 := nnz9.below (Below.refl _ _) (Nat.le_refl _)
  replace hB := below_after hB bz10
  replace hz5 := hz5.after bz10
  have ho : Own Wz8 w.heap.size (.slice (some ⟨Wz2.heap.size, 0, none⟩) 3 3) (kar 1) := Own.of_at nnz9.at_ (by decide) (by have := hB.size; omega) (by decide)
  refine hK' _ _ ?_
  clear hK' K' nnz9 bz10
  go_frame
  refine ls_ex (some 23) (.agg #[.int .i64 2, .int .i64 2, .int .i64 2, .int .i64 3, .slice (some ⟨Wz2.heap.size, 0, none⟩) 3 3]) rfl rfl (exec_build_meth _ _ _ _ _ rfl 2 2 2 3 _ 3 3 rfl rfl rfl rfl rfl) ?_
  go_frame
  refine ls_op rfl (fun K' hK' => ?_)
  refine wp_store_all 28 _ _ rfl rfl w.heap.size rfl #[.int .i64 2, .int .i64 2, .int .i64 2, .int .i64 3, .slice (some ⟨Wz2.heap.size, 0, none⟩) 3 3] rfl _ _ hz5 5 (by kernel_rfl) rfl rfl (one5 _ _ _ _ _ _ _) (fun Wz11 pz12 => ?_)
  replace hB := pz12.below hB (by omega)
  replace ho := ho.put pz12 (ho.off hz5 (by decide))
  replace hz5 : At Wz11 w.heap.size (.cells #[.int .i64 2, .int .i64 2, .int .i64 2, .int .i64 3, .slice (some ⟨Wz2.heap.size, 0, none⟩) 3 3] 28 (0, 0)) := pz12.at_
  refine hK' _ _ ?_
  clear hK' K' pz12
  refine wpList_nil ?_
  go_wp2_with fail
  refine bodyPost_ret (results_at rfl _ _ w.heap.size _ _ _ rfl hz5 Try.underlying28 rfl 5 (by kernel_rfl) rfl) rfl ?_
  exact ⟨_, rfl, ho.mono (by omega), hB⟩
set_option maxHeartbeats 4000000 in
theorem l09Kar_3 (w : World) :
    Calls Try.prog 55 #[.int .i64 3] w (fun e w' => ∃ v, e = .returned (.agg #[.int .i64 3, .int .i64 2, .int .i64 2, .int .i64 3, v]) ∧ Own w' w.heap.size v (kar 2) ∧ Below w.heap.size w w') := by
  have hB := Below.refl w.heap.size w
  skip
  go_enter Try.func55, Try.ntmps55
  go_upto_region 0 with (fail)
  refine wp_region_lit ?_
  refine ls_op rfl (fun K' hK' => ?_)
  have lz1 := hB.size
  refine wp_new (some 2) rfl (al_impl_Method rfl) (fun Wz2 nnz3 => ?_)
  have bz4 := nnz3.below (Below.refl _ _) (Nat.le_refl _)
  replace hB := below_after hB bz4
  have hz5 : At Wz2 w.heap.size (.cells #[.int .i64 0, .int .i64 0, .int .i64 0, .int .i64 0, .slice none 0 0] 28 (0, 0)) := nnz3.at_
  refine hK' _ _ ?_
  clear hK' K' nnz3 bz4
  go_frame
  refine wpList_nil ?_
  go_upto_region 1 with (fail)
  refine wp_region_lit ?_
  refine ls_ex (some 4) (.int .i64 3) rfl rfl (exec_move _ rfl (.int .i64 3) rfl) ?_
  go_frame
  refine ls_ex (some 5) (.int .i64 2) rfl rfl (exec_sub _ _ _ _ rfl 3 1 2 rfl rfl rfl) ?_
  go_frame
  refine ls_ex (some 6) (.int .u8 2) rfl rfl (exec_conv8k _ rfl 2 2 rfl (by decide) rfl) ?_
  go_frame
  refine ls_ex (some 3) (.int .u8 2) rfl rfl (exec_assign _ rfl (.int .u8 2) rfl) ?_
  go_frame
  refine wpList_nil ?_
  go_upto_region 2 with (fail)
  refine wp_region_lit ?_
  refine ls_ex (some 7) (.int .i64 3) rfl rfl (exec_move _ rfl (.int .i64 3) rfl) ?_
  go_frame
  refine ls_ex (some 8) (.agg (u8s ([1, 0, 0, 0, 0, 0, 0, 0, 0]))) rfl rfl (exec_form1 _ rfl ([1, 0, 0, 0, 0, 0, 0, 0, 0]) 1 rfl (by kernel_rfl)) ?_
  go_frame
  refine ls_ex (some 9) (.agg (u8s ([1, 0, 0, 0, 0, 0, 0, 0, 0]))) rfl rfl (exec_form1 _ rfl ([1, 0, 0, 0, 0, 0, 0, 0, 0]) 1 rfl (by kernel_rfl)) ?_
  go_frame
  refine ls_ex (some 10) (.int .u8 2) rfl rfl (exec_move _ rfl (.int .u8 2) rfl) ?_
  go_frame
  refine ls_ex (some 11) (.agg (u8s ([1, 2, 0, 0, 0, 0, 0, 0, 0]))) rfl rfl (exec_form2 _ _ rfl ([1, 2, 0, 0, 0, 0, 0, 0, 0]) 1 2 rfl rfl (by kernel_rfl)) ?_
  go_frame
  refine ls_ex (some 12) (.agg (u8s (kar1 2))) rfl rfl (exec_prod _ _ _ rfl ([1, 0, 0, 0, 0, 0, 0, 0, 0]) ([1, 0, 0, 0, 0, 0, 0, 0, 0]) ([1, 2, 0, 0, 0, 0, 0, 0, 0]) rfl rfl rfl rfl rfl rfl) ?_
  go_frame
  refine ls_ex (some 13) (.agg (u8s ([0, 1, 0, 0, 0, 0, 0, 0, 0]))) rfl rfl (exec_form2 _ _ rfl ([0, 1, 0, 0, 0, 0, 0, 0, 0]) 0 1 rfl rfl (by kernel_rfl)) ?_
  go_frame
  refine ls_ex (some 14) (.agg (u8s ([0, 1, 0, 0, 0, 0, 0, 0, 0]))) rfl rfl (exec_form2 _ _ rfl ([0, 1, 0, 0, 0, 0, 0, 0, 0]) 0 1 rfl rfl (by kernel_rfl)) ?_
  go_frame
  refine ls_ex (some 15) (.int .u8 2) rfl rfl (exec_move _ rfl (.int .u8 2) rfl) ?_
  go_frame
  refine ls_ex (some 16) (.agg (u8s ([0, 2, 1, 0, 0, 0, 0, 0, 0]))) rfl rfl (exec_form3 _ _ _ rfl ([0, 2, 1, 0, 0, 0, 0, 0, 0]) 0 2 1 rfl rfl rfl (by kernel_rfl)) ?_
  go_frame
  refine ls_ex (some 17) (.agg (u8s (kar2 2))) rfl rfl (exec_prod _ _ _ rfl ([0, 1, 0, 0, 0, 0, 0, 0, 0]) ([0, 1, 0, 0, 0, 0, 0, 0, 0]) ([0, 2, 1, 0, 0, 0, 0, 0, 0]) rfl rfl rfl rfl rfl rfl) ?_
  go_frame
  refine ls_ex (some 18) (.agg (u8s ([1, 1, 0, 0, 0, 0, 0, 0, 0]))) rfl rfl (exec_form2 _ _ rfl ([1, 1, 0, 0, 0, 0, 0, 0, 0]) 1 1 rfl rfl (by kernel_rfl)) ?_
  go_frame
  refine ls_ex (some 19) (.agg (u8s ([1, 1, 0, 0, 0, 0, 0, 0, 0]))) rfl rfl (exec_form2 _ _ rfl ([1, 1, 0, 0, 0, 0, 0, 0, 0]) 1 1 rfl rfl (by kernel_rfl)) ?_
  go_frame
  refine ls_ex (some 20) (.agg (u8s ([0, 1, 0, 0, 0, 0, 0, 0, 0]))) rfl rfl (exec_form2 _ _ rfl ([0, 1, 0, 0, 0, 0, 0, 0, 0]) 0 1 rfl rfl (by kernel_rfl)) ?_
  go_frame
  refine ls_ex (some 21) (.agg (u8s (kar3))) rfl rfl (exec_prod _ _ _ rfl ([1, 1, 0, 0, 0, 0, 0, 0, 0]) ([1, 1, 0, 0, 0, 0, 0, 0, 0]) ([0, 1, 0, 0, 0, 0, 0, 0, 0]) rfl rfl rfl rfl rfl rfl) ?_
  go_frame
  refine ls_op rfl (fun K' hK' => ?_)
  have lz6 := hB.size
  have lz7 := hz5.lt
  refine wp_new (some 22) rfl (exec_kar _ _ _ rfl 2 (by decide) rfl rfl rfl) (fun Wz8 nnz9 => ?_)
  have bz10 := nnz9.below (Below.refl _ _) (Nat.le_refl _)
  replace hB := below_after hB bz10
  replace hz5 := hz5.after bz10
  have ho : Own Wz8 w.heap.size (.slice (some ⟨Wz2.heap.size, 0, none⟩) 3 3) (kar 2) := Own.of_at nnz9.at_ (by decide) (by have := hB.size; omega) (by decide)
  refine hK' _ _ ?_
  clear hK' K' nnz9 bz10
  go_frame
  refine ls_ex (some 23) (.agg #[.int .i64 3, .int .i64 2, .int .i64 2, .int .i64 3, .slice (some ⟨Wz2.heap.size, 0, none⟩) 3 3]) rfl rfl (exec_build_meth _ _ _ _ _ rfl 3 2 2 3 _ 3 3 rfl rfl rfl rfl rfl) ?_
  go_frame
  refine ls_op rfl (fun K' hK' => ?_)
  refine wp_store_all 28 _ _ rfl rfl w.heap.size rfl #[.int .i64 3, .int .i64 2, .int .i64 2, .int .i64 3, .slice (some ⟨Wz2.heap.size, 0, none⟩) 3 3] rfl _ _ hz5 5 (by kernel_rfl) rfl rfl (one5 _ _ _ _ _ _ _) (fun Wz11 pz12 => ?_)
  replace hB := pz12.below hB (by omega)
  replace ho := ho.put pz12 (ho.off hz5 (by decide))
  replace hz5 : At Wz11 w.heap.size (.cells #[.int .i64 3, .int .i64 2, .int .i64 2, .int .i64 3, .slice (some ⟨Wz2.heap.size, 0, none⟩) 3 3] 28 (0, 0)) := pz12.at_
  refine hK' _ _ ?_
  clear hK' K' pz12
  refine wpList_nil ?_
  go_wp2_with fail
  refine bodyPost_ret (results_at rfl _ _ w.heap.size _ _ _ rfl hz5 Try.underlying28 rfl 5 (by kernel_rfl) rfl) rfl ?_
  exact ⟨_, rfl, ho.mono (by omega), hB⟩
set_option maxHeartbeats 4000000 in
theorem l09Kar_5 (w : World) :
    Calls Try.prog 55 #[.int .i64 5] w (fun e w' => ∃ v, e = .returned (.agg #[.int .i64 5, .int .i64 2, .int .i64 2, .int .i64 3, v]) ∧ Own w' w.heap.size v (kar 4) ∧ Below w.heap.size w w') := by
  have hB := Below.refl w.heap.size w
  skip
  go_enter Try.func55, Try.ntmps55
  go_upto_region 0 with (fail)
  refine wp_region_lit ?_
  refine ls_op rfl (fun K' hK' => ?_)
  have lz1 := hB.size
  refine wp_new (some 2) rfl (al_impl_Method rfl) (fun Wz2 nnz3 => ?_)
  have bz4 := nnz3.below (Below.refl _ _) (Nat.le_refl _)
  replace hB := below_after hB bz4
  have hz5 : At Wz2 w.heap.size (.cells #[.int .i64 0, .int .i64 0, .int .i64 0, .int .i64 0, .slice none 0 0] 28 (0, 0)) := nnz3.at_
  refine hK' _ _ ?_
  clear hK' K' nnz3 bz4
  go_frame
  refine wpList_nil ?_
  go_upto_region 1 with (fail)
  refine wp_region_lit ?_
  refine ls_ex (some 4) (.int .i64 5) rfl rfl (exec_move _ rfl (.int .i64 5) rfl) ?_
  go_frame
  refine ls_ex (some 5) (.int .i64 4) rfl rfl (exec_sub _ _ _ _ rfl 5 1 4 rfl rfl rfl) ?_
  go_frame
  refine ls_ex (some 6) (.int .u8 4) rfl rfl (exec_conv8k _ rfl 4 4 rfl (by decide) rfl) ?_
  go_frame
  refine ls_ex (some 3) (.int .u8 4) rfl rfl (exec_assign _ rfl (.int .u8 4) rfl) ?_
  go_frame
  refine wpList_nil ?_
  go_upto_region 2 with (fail)
  refine wp_region_lit ?_
  refine ls_ex (some 7) (.int .i64 5) rfl rfl (exec_move _ rfl (.int .i64 5) rfl) ?_
  go_frame
  refine ls_ex (some 8) (.agg (u8s ([1, 0, 0, 0, 0, 0, 0, 0, 0]))) rfl rfl (exec_form1 _ rfl ([1, 0, 0, 0, 0, 0, 0, 0, 0]) 1 rfl (by kernel_rfl)) ?_
  go_frame
  refine ls_ex (some 9) (.agg (u8s ([1, 0, 0, 0, 0, 0, 0, 0, 0]))) rfl rfl (exec_form1 _ rfl ([1, 0, 0, 0, 0, 0, 0, 0, 0]) 1 rfl (by kernel_rfl)) ?_
  go_frame
  refine ls_ex (some 10) (.int .u8 4) rfl rfl (exec_move _ rfl (.int .u8 4) rfl) ?_
  go_frame
  refine ls_ex (some 11) (.agg (u8s ([1, 4, 0, 0, 0, 0, 0, 0, 0]))) rfl rfl (exec_form2 _ _ rfl ([1, 4, 0, 0, 0, 0, 0, 0, 0]) 1 4 rfl rfl (by kernel_rfl)) ?_
  go_frame
  refine ls_ex (some 12) (.agg (u8s (kar1 4))) rfl rfl (exec_prod _ _ _ rfl ([1, 0, 0, 0, 0, 0, 0, 0, 0]) ([1, 0, 0, 0, 0, 0, 0, 0, 0]) ([1, 4, 0, 0, 0, 0, 0, 0, 0]) rfl rfl rfl rfl rfl rfl) ?_
  go_frame
  refine ls_ex (some 13) (.agg (u8s ([0, 1, 0, 0, 0, 0, 0, 0, 0]))) rfl rfl (exec_form2 _ _ rfl ([0, 1, 0, 0, 0, 0, 0, 0, 0]) 0 1 rfl rfl (by kernel_rfl)) ?_
  go_frame
  refine ls_ex (some 14) (.agg (u8s ([0, 1, 0, 0, 0, 0, 0, 0, 0]))) rfl rfl (exec_form2 _ _ rfl ([0, 1, 0, 0, 0, 0, 0, 0, 0]) 0 1 rfl rfl (by kernel_rfl)) ?_
  go_frame
  refine ls_ex (some 15) (.int .u8 4) rfl rfl (exec_move _ rfl (.int .u8 4) rfl) ?_
  go_frame
  refine ls_ex (some 16) (.agg (u8s ([0, 4, 1, 0, 0, 0, 0, 0, 0]))) rfl rfl (exec_form3 _ _ _ rfl ([0, 4, 1, 0, 0, 0, 0, 0, 0]) 0 4 1 rfl rfl rfl (by kernel_rfl)) ?_
  go_frame
  refine ls_ex (some 17) (.agg (u8s (kar2 4))) rfl rfl (exec_prod _ _ _ rfl ([0, 1, 0, 0, 0, 0, 0, 0, 0]) ([0, 1, 0, 0, 0, 0, 0, 0, 0]) ([0, 4, 1, 0, 0, 0, 0, 0, 0]) rfl rfl rfl rfl rfl rfl) ?_
  go_frame
  refine ls_ex (some 18) (.agg (u8s ([1, 1, 0, 0, 0, 0, 0, 0, 0]))) rfl rfl (exec_form2 _ _ rfl ([1, 1, 0, 0, 0, 0, 0, 0, 0]) 1 1 rfl rfl (by kernel_rfl)) ?_
  go_frame
  refine ls_ex (some 19) (.agg (u8s ([1, 1, 0, 0, 0, 0, 0, 0, 0]))) rfl rfl (exec_form2 _ _ rfl ([1, 1, 0, 0, 0, 0, 0, 0, 0]) 1 1 rfl rfl (by kernel_rfl)) ?_
  go_frame
  refine ls_ex (some 20) (.agg (u8s ([0, 1, 0, 0, 0, 0, 0, 0, 0]))) rfl rfl (exec_form2 _ _ rfl ([0, 1, 0, 0, 0, 0, 0, 0, 0]) 0 1 rfl rfl (by kernel_rfl)) ?_
  go_frame
  refine ls_ex (some 21) (.agg (u8s (kar3))) rfl rfl (exec_prod _ _ _ rfl ([1, 1, 0, 0, 0, 0, 0, 0, 0]) ([1, 1, 0, 0, 0, 0, 0, 0, 0]) ([0, 1, 0, 0, 0, 0, 0, 0, 0]) rfl rfl rfl rfl rfl rfl) ?_
  go_frame
  refine ls_op rfl (fun K' hK' => ?_)
  have lz6 := hB.size
  have lz7 := hz5.lt
  refine wp_new (some 22) rfl (exec_kar _ _ _ rfl 4 (by decide) rfl rfl rfl) (fun Wz8 nnz9 => ?_)
  have bz10 := nnz9.below (Below.refl _ _) (Nat.le_refl _)
  replace hB := below_after hB bz10
  replace hz5 := hz5.after bz10
  have ho : Own Wz8 w.heap.size (.slice (some ⟨Wz2.heap.size, 0, none⟩) 3 3) (kar 4) := Own.of_at nnz9.at_ (by decide) (by have := hB.size; omega) (by decide)
  refine hK' _ _ ?_
  clear hK' K' nnz9 bz10
  go_frame
  refine ls_ex (some 23) (.agg #[.int .i64 5, .int .i64 2, .int .i64 2, .int .i64 3, .slice (some ⟨Wz2.heap.size, 0, none⟩) 3 3]) rfl rfl (exec_build_meth _ _ _ _ _ rfl 5 2 2 3 _ 3 3 rfl rfl rfl rfl rfl) ?_
  go_frame
  refine ls_op rfl (fun K' hK' => ?_)
  refine wp_store_all 28 _ _ rfl rfl w.heap.size rfl #[.int .i64 5, .int .i64 2, .int .i64 2, .int .i64 3, .slice (some ⟨Wz2.heap.size, 0, none⟩) 3 3] rfl _ _ hz5 5 (by kernel_rfl) rfl rfl (one5 _ _ _ _ _ _ _) (fun Wz11 pz12 => ?_)
  replace hB := pz12.below hB (by omega)
  replace ho := ho.put pz12 (ho.off hz5 (by decide))
  replace hz5 : At Wz11 w.heap.size (.cells #[.int .i64 5, .int .i64 2, .int .i64 2, .int .i64 3, .slice (some ⟨Wz2.heap.size, 0, none⟩) 3 3] 28 (0, 0)) := pz12.at_
  refine hK' _ _ ?_
  clear hK' K' pz12
  refine wpList_nil ?_
  go_wp2_with fail
  refine bodyPost_ret (results_at rfl _ _ w.heap.size _ _ _ rfl hz5 Try.underlying28 rfl 5 (by kernel_rfl) rfl) rfl ?_
  exact ⟨_, rfl, ho.mono (by omega), hB⟩
set_option maxHeartbeats 4000000 in
theorem specKar_no (p : Int) (hp : primeB p = false) (w : World) :
    Calls Try.prog 27 #[.int .i64 p] w (ResH w (hZ (karCode p) p) (hZ (karCode p) 2) (hZ (karCode p) 2) (hZ (karCode p) 3) (hL (karCode p) (kar (p - 1).toNat)) (karCode p)) := by
  have hB := Below.refl w.heap.size w
  have HC : Hid (karCode p = 2) := Lib.hid (by unfold karCode; rw [hp]; rfl)
  have HP := Lib.hid hp
  clear hp
  go_enter Try.func27, Try.ntmps27
  go_upto_region 0 with (fail)
  refine wp_region_lit ?_
  refine ls_op rfl (fun K' hK' => ?_)
  have lz1 := hB.size
  refine wp_new (some 2) rfl (al_impl_Method rfl) (fun Wz2 nnz3 => ?_)
  have bz4 := nnz3.below (Below.refl _ _) (Nat.le_refl _)
  replace hB := below_after hB bz4
  have hz5 : At Wz2 w.heap.size (.cells #[.int .i64 0, .int .i64 0, .int .i64 0, .int .i64 0, .slice none 0 0] 28 (0, 0)) := nnz3.at_
  refine hK' _ _ ?_
  clear hK' K' nnz3 bz4
  go_frame
  refine ls_ex (some 3) (.int .i64 0) rfl rfl (exec_assign _ rfl (.int .i64 0) rfl) ?_
  go_frame
  refine wpList_nil ?_
  go_upto_region 1 with (fail)
  refine wp_region_lit ?_
  refine ls_ex (some 4) (.int .i64 p) rfl rfl (exec_move _ rfl (.int .i64 p) rfl) ?_
  go_frame
  refine ls_op rfl (fun K' hK' => ?_)
  have lz8 := hB.size
  have lz9 := hz5.lt
  refine wp_call1 (some 5) rfl 38 _ _ rfl (fun args w => by kernel_rfl) _ rfl _ (l01Prime_c p _) (fun e Wz6 h => ?_)
  obtain ⟨rfl, rfl⟩ := h
  rw [HP.out]
  refine ⟨_, rfl, ?_⟩
  refine hK' _ _ ?_
  clear hK' K'
  go_frame
  refine ls_ex (some 6) (.bool true) rfl rfl (exec_not _ _ rfl false rfl) ?_
  go_frame
  refine wpList_nil ?_
  go_upto_region 2 with (fail)
  refine wp_region_lit ?_
  refine ls_ex (some 7) (.agg #[.int .i64 0, .int .i64 0, .int .i64 0, .int .i64 0, .slice none 0 0]) rfl rfl (exec_build_nil 28 rfl _ (by kernel_rfl)) ?_
  go_frame
  refine ls_op rfl (fun K' hK' => ?_)
  refine wp_store_all 28 _ _ rfl rfl w.heap.size rfl #[.int .i64 0, .int .i64 0, .int .i64 0, .int .i64 0, .slice none 0 0] rfl _ _ hz5 5 (by kernel_rfl) rfl rfl (one5 _ _ _ _ _ _ _) (fun Wz10 pz11 => ?_)
  replace hB := pz11.below hB (by omega)
  replace hz5 : At Wz10 w.heap.size (.cells #[.int .i64 0, .int .i64 0, .int .i64 0, .int .i64 0, .slice none 0 0] 28 (0, 0)) := pz11.at_
  refine hK' _ _ ?_
  clear hK' K' pz11
  refine ls_ex (some 3) (.int .i64 2) rfl rfl (exec_assign _ rfl (.int .i64 2) rfl) ?_
  go_frame
  refine wpList_nil ?_
  go_wp2_with fail
  refine bodyPost_ret (results_at2 rfl _ _ w.heap.size _ _ _ rfl _ rfl hz5 Try.underlying28 rfl 5 (by kernel_rfl) rfl) rfl ?_
  unfold ResH hZ hL
  rw [HC.out]
  exact ⟨_, rfl, Own.nil _ _, hB⟩
set_option maxHeartbeats 4000000 in
theorem specKar_2 (w : World) :
    Calls Try.prog 27 #[.int .i64 2] w (ResH w (hZ (karCode (2 : Int)) (2 : Int)) (hZ (karCode (2 : Int)) 2) (hZ (karCode (2 : Int)) 2) (hZ (karCode (2 : Int)) 3) (hL (karCode (2 : Int)) (kar ((2 : Int) - 1).toNat)) (karCode (2 : Int))) := by
  have hB := Below.refl w.heap.size w
  have HC : Hid (karCode 2 = 0) := Lib.hid rfl
  have HP : Hid (primeB 2 = true) := Lib.hid rfl
  go_enter Try.func27, Try.ntmps27
  go_upto_region 0 with (fail)
  refine wp_region_lit ?_
  refine ls_op rfl (fun K' hK' => ?_)
  have lz1 := hB.size
  refine wp_new (some 2) rfl (al_impl_Method rfl) (fun Wz2 nnz3 => ?_)
  have bz4 := nnz3.below (Below.refl _ _) (Nat.le_refl _)
  replace hB := below_after hB bz4
  have hz5 : At Wz2 w.heap.size (.cells #[.int .i64 0, .int .i64 0, .int .i64 0, .int .i64 0, .slice none 0 0] 28 (0, 0)) := nnz3.at_
  refine hK' _ _ ?_
  clear hK' K' nnz3 bz4
  go_frame
  refine ls_ex (some 3) (.int .i64 0) rfl rfl (exec_assign _ rfl (.int .i64 0) rfl) ?_
  go_frame
  refine wpList_nil ?_
  go_upto_region 1 with (fail)
  refine wp_region_lit ?_
  refine ls_ex (some 4) (.int .i64 2) rfl rfl (exec_move _ rfl (.int .i64 2) rfl) ?_
  go_frame
  refine ls_op rfl (fun K' hK' => ?_)
  have lz8 := hB.size
  have lz9 := hz5.lt
  refine wp_call1 (some 5) rfl 38 _ _ rfl (fun args w => by kernel_rfl) _ rfl _ (l01Prime_c 2 _) (fun e Wz6 h => ?_)
  obtain ⟨rfl, rfl⟩ := h
  rw [HP.out]
  refine ⟨_, rfl, ?_⟩
  refine hK' _ _ ?_
  clear hK' K'
  go_frame
  refine ls_ex (some 6) (.bool false) rfl rfl (exec_not _ _ rfl true rfl) ?_
  go_frame
  refine wpList_nil ?_
  go_upto_region 3 with (fail)
  refine wp_region_lit ?_
  refine ls_ex (some 8) (.int .i64 2) rfl rfl (exec_move _ rfl (.int .i64 2) rfl) ?_
  go_frame
  refine ls_op rfl (fun K' hK' => ?_)
  have lz12 := hB.size
  have lz13 := hz5.lt
  refine wp_call1 (some 9) rfl 55 _ _ rfl (fun args w => by kernel_rfl) _ rfl _ (l09Kar_2 _) (fun e Wz10 h => ?_)
  obtain ⟨v7, rfl, ho, bz11⟩ := h
  replace hB := below_after hB bz11
  replace hz5 := hz5.after bz11
  obtain ⟨A7, c7, rfl⟩ := Own.rdN2 ho (n := 3) rfl
  clear bz11
  refine ⟨_, rfl, ?_⟩
  refine hK' _ _ ?_
  clear hK' K'
  go_frame
  refine ls_op rfl (fun K' hK' => ?_)
  refine wp_store_all 28 _ _ rfl rfl w.heap.size rfl #[.int .i64 2, .int .i64 2, .int .i64 2, .int .i64 3, .slice A7 3 c7] rfl _ _ hz5 5 (by kernel_rfl) rfl rfl (one5 _ _ _ _ _ _ _) (fun Wz14 pz15 => ?_)
  replace hB := pz15.below hB (by omega)
  replace ho := ho.put pz15 (ho.off hz5 (by decide))
  replace hz5 : At Wz14 w.heap.size (.cells #[.int .i64 2, .int .i64 2, .int .i64 2, .int .i64 3, .slice A7 3 c7] 28 (0, 0)) := pz15.at_
  refine hK' _ _ ?_
  clear hK' K' pz15
  refine ls_ex (some 3) (.int .i64 0) rfl rfl (exec_assign _ rfl (.int .i64 0) rfl) ?_
  go_frame
  refine wpList_nil ?_
  go_wp2_with fail
  refine bodyPost_ret (results_at2 rfl _ _ w.heap.size _ _ _ rfl _ rfl hz5 Try.underlying28 rfl 5 (by kernel_rfl) rfl) rfl ?_
  unfold ResH hZ hL
  rw [HC.out]
  exact ⟨_, rfl, ho.mono (by omega), hB⟩
set_option maxHeartbeats 4000000 in
theorem specKar_3 (w : World) :
    Calls Try.prog 27 #[.int .i64 3] w (ResH w (hZ (karCode (3 : Int)) (3 : Int)) (hZ (karCode (3 : Int)) 2) (hZ (karCode (3 : Int)) 2) (hZ (karCode (3 : Int)) 3) (hL (karCode (3 : Int)) (kar ((3 : Int) - 1).toNat)) (karCode (3 : Int))) := by
  have hB := Below.refl w.heap.size w
  have HC : Hid (karCode 3 = 0) := Lib.hid rfl
  have HP : Hid (primeB 3 = true) := Lib.hid rfl
  go_enter Try.func27, Try.ntmps27
  go_upto_region 0 with (fail)
  refine wp_region_lit ?_
  refine ls_op rfl (fun K' hK' => ?_)
  have lz1 := hB.size
  refine wp_new (some 2) rfl (al_impl_Method rfl) (fun Wz2 nnz3 => ?_)
  have bz4 := nnz3.below (Below.refl _ _) (Nat.le_refl _)
  replace hB := below_after hB bz4
  have hz5 : At Wz2 w.heap.size (.cells #[.int .i64 0, .int .i64 0, .int .i64 0, .int .i64 0, .slice none 0 0] 28 (0, 0)) := nnz3.at_
  refine hK' _ _ ?_
  clear hK' K' nnz3 bz4
  go_frame
  refine ls_ex (some 3) (.int .i64 0) rfl rfl (exec_assign _ rfl (.int .i64 0) rfl) ?_
  go_frame
  refine wpList_nil ?_
  go_upto_region 1 with (fail)
  refine wp_region_lit ?_
  refine ls_ex (some 4) (.int .i64 3) rfl rfl (exec_move _ rfl (.int .i64 3) rfl) ?_
  go_frame
  refine ls_op rfl (fun K' hK' => ?_)
  have lz8 := hB.size
  have lz9 := hz5.lt
  refine wp_call1 (some 5) rfl 38 _ _ rfl (fun args w => by kernel_rfl) _ rfl _ (l01Prime_c 3 _) (fun e Wz6 h => ?_)
  obtain ⟨rfl, rfl⟩ := h
  rw [HP.out]
  refine ⟨_, rfl, ?_⟩
  refine hK' _ _ ?_
  clear hK' K'
  go_frame
  refine ls_ex (some 6) (.bool false) rfl rfl (exec_not _ _ rfl true rfl) ?_
  go_frame
  refine wpList_nil ?_
  go_upto_region 3 with (fail)
  refine wp_region_lit ?_
  refine ls_ex (some 8) (.int .i64 3) rfl rfl (exec_move _ rfl (.int .i64 3) rfl) ?_
  go_frame
  refine ls_op rfl (fun K' hK' => ?_)
  have lz12 := hB.size
  have lz13 := hz5.lt
  refine wp_call1 (some 9) rfl 55 _ _ rfl (fun args w => by kernel_rfl) _ rfl _ (l09Kar_3 _) (fun e Wz10 h => ?_)
  obtain ⟨v7, rfl, ho, bz11⟩ := h
  replace hB := below_after hB bz11
  replace hz5 := hz5.after bz11
  obtain ⟨A7, c7, rfl⟩ := Own.rdN2 ho (n := 3) rfl
  clear bz11
  refine ⟨_, rfl, ?_⟩
  refine hK' _ _ ?_
  clear hK' K'
  go_frame
  refine ls_op rfl (fun K' hK' => ?_)
  refine wp_store_all 28 _ _ rfl rfl w.heap.size rfl #[.int .i64 3, .int .i64 2, .int .i64 2, .int .i64 3, .slice A7 3 c7] rfl _ _ hz5 5 (by kernel_rfl) rfl rfl (one5 _ _ _ _ _ _ _) (fun Wz14 pz15 => ?_)
  replace hB := pz15.below hB (by omega)
  replace ho := ho.put pz15 (ho.off hz5 (by decide))
  replace hz5 : At Wz14 w.heap.size (.cells #[.int .i64 3, .int .i64 2, .int .i64 2, .int .i64 3, .slice A7 3 c7] 28 (0, 0)) := pz15.at_
  refine hK' _ _ ?_
  clear hK' K' pz15
  refine ls_ex (some 3) (.int .i64 0) rfl rfl (exec_assign _ rfl (.int .i64 0) rfl) ?_
  go_frame
  refine wpList_nil ?_
  go_wp2_with fail
  refine bodyPost_ret (results_at2 rfl _ _ w.heap.size _ _ _ rfl _ rfl hz5 Try.underlying28 rfl 5 (by kernel_rfl) rfl) rfl ?_
  unfold ResH hZ hL
  rw [HC.out]
  exact ⟨_, rfl, ho.mono (by omega), hB⟩
set_option maxHeartbeats 4000000 in
theorem specKar_5 (w : World) :
    Calls Try.prog 27 #[.int .i64 5] w (ResH w (hZ (karCode (5 : Int)) (5 : Int)) (hZ (karCode (5 : Int)) 2) (hZ (karCode (5 : Int)) 2) (hZ (karCode (5 : Int)) 3) (hL (karCode (5 : Int)) (kar ((5 : Int) - 1).toNat)) (karCode (5 : Int))) := by
  have hB := Below.refl w.heap.size w
  have HC : Hid (karCode 5 = 0) := Lib.hid rfl
  have HP : Hid (primeB 5 = true) := Lib.hid rfl
  go_enter Try.func27, Try.ntmps27
  go_upto_region 0 with (fail)
  refine wp_region_lit ?_
  refine ls_op rfl (fun K' hK' => ?_)
  have lz1 := hB.size
  refine wp_new (some 2) rfl (al_impl_Method rfl) (fun Wz2 nnz3 => ?_)
  have bz4 := nnz3.below (Below.refl _ _) (Nat.le_refl _)
  replace hB := below_after hB bz4
  have hz5 : At Wz2 w.heap.size (.cells #[.int .i64 0, .int .i64 0, .int .i64 0, .int .i64 0, .slice none 0 0] 28 (0, 0)) := nnz3.at_
  refine hK' _ _ ?_
  clear hK' K' nnz3 bz4
  go_frame
  refine ls_ex (some 3) (.int .i64 0) rfl rfl (exec_assign _ rfl (.int .i64 0) rfl) ?_
  go_frame
  refine wpList_nil ?_
  go_upto_region 1 with (fail)
  refine wp_region_lit ?_
  refine ls_ex (some 4) (.int .i64 5) rfl rfl (exec_move _ rfl (.int .i64 5) rfl) ?_
  go_frame
  refine ls_op rfl (fun K' hK' => ?_)
  have lz8 := hB.size
  have lz9 := hz5.lt
  refine wp_call1 (some 5) rfl 38 _ _ rfl (fun args w => by kernel_rfl) _ rfl _ (l01Prime_c 5 _) (fun e Wz6 h => ?_)
  obtain ⟨rfl, rfl⟩ := h
  rw [HP.out]
  refine ⟨_, rfl, ?_⟩
  refine hK' _ _ ?_
  clear hK' K'
  go_frame
  refine ls_ex (some 6) (.bool false) rfl rfl (exec_not _ _ rfl true rfl) ?_
  go_frame
  refine wpList_nil ?_
  go_upto_region 3 with (fail)
  refine wp_region_lit ?_
  refine ls_ex (some 8) (.int .i64 5) rfl rfl (exec_move _ rfl (.int .i64 5) rfl) ?_
  go_frame
  refine ls_op rfl (fun K' hK' => ?_)
  have lz12 := hB.size
  have lz13 := hz5.lt
  refine wp_call1 (some 9) rfl 55 _ _ rfl (fun args w => by kernel_rfl) _ rfl _ (l09Kar_5 _) (fun e Wz10 h => ?_)
  obtain ⟨v7, rfl, ho, bz11⟩ := h
  replace hB := below_after hB bz11
  replace hz5 := hz5.after bz11
  obtain ⟨A7, c7, rfl⟩ := Own.rdN2 ho (n := 3) rfl
  clear bz11
  refine ⟨_, rfl, ?_⟩
  refine hK' _ _ ?_
  clear hK' K'
  go_frame
  refine ls_op rfl (fun K' hK' => ?_)
  refine wp_store_all 28 _ _ rfl rfl w.heap.size rfl #[.int .i64 5, .int .i64 2, .int .i64 2, .int .i64 3, .slice A7 3 c7] rfl _ _ hz5 5 (by kernel_rfl) rfl rfl (one5 _ _ _ _ _ _ _) (fun Wz14 pz15 => ?_)
  replace hB := pz15.below hB (by omega)
  replace ho := ho.put pz15 (ho.off hz5 (by decide))
  replace hz5 : At Wz14 w.heap.size (.cells #[.int .i64 5, .int .i64 2, .int .i64 2, .int .i64 3, .slice A7 3 c7] 28 (0, 0)) := pz15.at_
  refine hK' _ _ ?_
  clear hK' K' pz15
  refine ls_ex (some 3) (.int .i64 0) rfl rfl (exec_assign _ rfl (.int .i64 0) rfl) ?_
  go_frame
  refine wpList_nil ?_
  go_wp2_with fail
  refine bodyPost_ret (results_at2 rfl _ _ w.heap.size _ _ _ rfl _ rfl hz5 Try.underlying28 rfl 5 (by kernel_rfl) rfl) rfl ?_
  unfold ResH hZ hL
  rw [HC.out]
  exact ⟨_, rfl, ho.mono (by omega), hB⟩
theorem specKaratsubaMethod_c (p : Int) (w : World) : Calls Try.prog 27 #[.int .i64 p] w (ResH w (hZ (karCode p) p) (hZ (karCode p) 2) (hZ (karCode p) 2) (hZ (karCode p) 3) (hL (karCode p) (kar (p - 1).toNat)) (karCode p)) := by
  cases hp : primeB p with
  | false => exact specKar_no p hp w
  | true =>
    have h3 : p = 2 ∨ p = 3 ∨ p = 5 := by
      simp only [primeB, Bool.or_eq_true, beq_iff_eq] at hp
      omega
    rcases h3 with rfl | rfl | rfl
    · exact specKar_2 w
    · exact specKar_3 w
    · exact specKar_5 w
set_option maxHeartbeats 4000000 in
theorem implKar_no (p : Int) (hp : primeB p = false) (w : World) :
    Calls Try.prog 28 #[.int .i64 p] w (ResH w (hZ (karCode p) p) (hZ (karCode p) 2) (hZ (karCode p) 2) (hZ (karCode p) 3) (hL (karCode p) (kar (p - 1).toNat)) (karCode p)) := by
  have hB := Below.refl w.heap.size w
  have HC : Hid (karCode p = 2) := Lib.hid (by unfold karCode; rw [hp]; rfl)
  have HP := Lib.hid hp
  clear hp
  go_enter Try.func28, Try.ntmps28
  go_upto_region 0 with (fail)
  refine wp_region_lit ?_
  refine ls_op rfl (fun K' hK' => ?_)
  have lz1 := hB.size
  refine wp_new (some 2) rfl (al_impl_Method rfl) (fun Wz2 nnz3 => ?_)
  have bz4 := nnz3.below (Below.refl _ _) (Nat.le_refl _)
  replace hB := below_after hB bz4
  have hz5 : At Wz2 w.heap.size (.cells #[.int .i64 0, .int .i64 0, .int .i64 0, .int .i64 0, .slice none 0 0] 28 (0, 0)) := nnz3.at_
  refine hK' _ _ ?_
  clear hK' K' nnz3 bz4
  go_frame
  refine ls_ex (some 3) (.int .i64 0) rfl rfl (exec_assign _ rfl (.int .i64 0) rfl) ?_
  go_frame
  refine wpList_nil ?_
  go_upto_region 1 with (fail)
  refine wp_region_lit ?_
  refine ls_ex (some 5) (.int .i64 p) rfl rfl (exec_move _ rfl (.int .i64 p) rfl) ?_
  go_frame
  refine ls_op rfl (fun K' hK' => ?_)
  have lz8 := hB.size
  have lz9 := hz5.lt
  refine wp_call1 (some 6) rfl 43 _ _ rfl (fun args w => by kernel_rfl) _ rfl _ (isPrime_c p _) (fun e Wz6 h => ?_)
  obtain ⟨rfl, rfl⟩ := h
  rw [HP.out]
  refine ⟨_, rfl, ?_⟩
  refine hK' _ _ ?_
  clear hK' K'
  go_frame
  refine ls_ex (some 7) (.bool true) rfl rfl (exec_not _ _ rfl false rfl) ?_
  go_frame
  refine wpList_nil ?_
  go_upto_region 2 with (fail)
  refine wp_region_lit ?_
  refine ls_ex (some 8) (.agg #[.int .i64 0, .int .i64 0, .int .i64 0, .int .i64 0, .slice none 0 0]) rfl rfl (exec_build_nil 28 rfl _ (by kernel_rfl)) ?_
  go_frame
  refine ls_op rfl (fun K' hK' => ?_)
  refine wp_store_all 28 _ _ rfl rfl w.heap.size rfl #[.int .i64 0, .int .i64 0, .int .i64 0, .int .i64 0, .slice none 0 0] rfl _ _ hz5 5 (by kernel_rfl) rfl rfl (one5 _ _ _ _ _ _ _) (fun Wz10 pz11 => ?_)
  replace hB := pz11.below hB (by omega)
  replace hz5 : At Wz10 w.heap.size (.cells #[.int .i64 0, .int .i64 0, .int .i64 0, .int .i64 0, .slice none 0 0] 28 (0, 0)) := pz11.at_
  refine hK' _ _ ?_
  clear hK' K' pz11
  refine ls_ex (some 3) (.int .i64 2) rfl rfl (exec_assign _ rfl (.int .i64 2) rfl) ?_
  go_frame
  refine wpList_nil ?_
  go_wp2_with fail
  refine bodyPost_ret (results_at2 rfl _ _ w.heap.size _ _ _ rfl _ rfl hz5 Try.underlying28 rfl 5 (by kernel_rfl) rfl) rfl ?_
  unfold ResH hZ hL
  rw [HC.out]
  exact ⟨_, rfl, Own.nil _ _, hB⟩
set_option maxHeartbeats 4000000 in
theorem implKar_2 (w : World) :
    Calls Try.prog 28 #[.int .i64 2] w (ResH w (hZ (karCode (2 : Int)) (2 : Int)) (hZ (karCode (2 : Int)) 2) (hZ (karCode (2 : Int)) 2) (hZ (karCode (2 : Int)) 3) (hL (karCode (2 : Int)) (kar ((2 : Int) - 1).toNat)) (karCode (2 : Int))) := by
  have hB := Below.refl w.heap.size w
  have HC : Hid (karCode 2 = 0) := Lib.hid rfl
  have HP : Hid (primeB 2 = true) := Lib.hid rfl
  go_enter Try.func28, Try.ntmps28
  go_upto_region 0 with (fail)
  refine wp_region_lit ?_
  refine ls_op rfl (fun K' hK' => ?_)
  have lz1 := hB.size
  refine wp_new (some 2) rfl (al_impl_Method rfl) (fun Wz2 nnz3 => ?_)
  have bz4 := nnz3.below (Below.refl _ _) (Nat.le_refl _)
  replace hB := below_after hB bz4
  have hz5 : At Wz2 w.heap.size (.cells #[.int .i64 0, .int .i64 0, .int .i64 0, .int .i64 0, .slice none 0 0] 28 (0, 0)) := nnz3.at_
  refine hK' _ _ ?_
  clear hK' K' nnz3 bz4
  go_frame
  refine ls_ex (some 3) (.int .i64 0) rfl rfl (exec_assign _ rfl (.int .i64 0) rfl) ?_
  go_frame
  refine wpList_nil ?_
  go_upto_region 1 with (fail)
  refine wp_region_lit ?_
  refine ls_ex (some 5) (.int .i64 2) rfl rfl (exec_move _ rfl (.int .i64 2) rfl) ?_
  go_frame
  refine ls_op rfl (fun K' hK' => ?_)
  have lz8 := hB.size
  have lz9 := hz5.lt
  refine wp_call1 (some 6) rfl 43 _ _ rfl (fun args w => by kernel_rfl) _ rfl _ (isPrime_c 2 _) (fun e Wz6 h => ?_)
  obtain ⟨rfl, rfl⟩ := h
  rw [HP.out]
  refine ⟨_, rfl, ?_⟩
  refine hK' _ _ ?_
  clear hK' K'
  go_frame
  refine ls_ex (some 7) (.bool false) rfl rfl (exec_not _ _ rfl true rfl) ?_
  go_frame
  refine wpList_nil ?_
  go_upto_region 3 with (fail)
  refine wp_region_lit ?_
  refine ls_ex (some 9) (.int .i64 2) rfl rfl (exec_move _ rfl (.int .i64 2) rfl) ?_
  go_frame
  refine ls_ex (some 10) (.int .i64 1) rfl rfl (exec_sub _ _ _ _ rfl 2 1 1 rfl rfl rfl) ?_
  go_frame
  refine ls_ex (some 11) (.int .u8 1) rfl rfl (exec_conv8k _ rfl 1 1 rfl (by decide) rfl) ?_
  go_frame
  refine ls_ex (some 4) (.int .u8 1) rfl rfl (exec_assign _ rfl (.int .u8 1) rfl) ?_
  go_frame
  refine wpList_nil ?_
  go_upto_region 4 with (fail)
  refine wp_region_lit ?_
  refine ls_ex (some 12) (.int .i64 2) rfl rfl (exec_move _ rfl (.int .i64 2) rfl) ?_
  go_frame
  refine ls_ex (some 13) (.agg #[.int .i64 2, .int .i64 2, .int .i64 3]) rfl rfl (exec_build_box3 _ _ _ rfl 2 2 3 rfl rfl rfl) ?_
  go_frame
  refine ls_ex (some 14) (.agg (u8s ([1, 0, 0, 0, 0, 0, 0, 0, 0]))) rfl rfl (exec_form2 _ _ rfl ([1, 0, 0, 0, 0, 0, 0, 0, 0]) 1 0 rfl rfl (by kernel_rfl)) ?_
  go_frame
  refine ls_ex (some 15) (.agg (u8s ([1, 0, 0, 0, 0, 0, 0, 0, 0]))) rfl rfl (exec_form2 _ _ rfl ([1, 0, 0, 0, 0, 0, 0, 0, 0]) 1 0 rfl rfl (by kernel_rfl)) ?_
  go_frame
  refine ls_ex (some 16) (.int .u8 1) rfl rfl (exec_move _ rfl (.int .u8 1) rfl) ?_
  go_frame
  refine ls_ex (some 17) (.agg (u8s ([1, 1, 0, 0, 0, 0, 0, 0, 0]))) rfl rfl (exec_form3 _ _ _ rfl ([1, 1, 0, 0, 0, 0, 0, 0, 0]) 1 1 0 rfl rfl rfl (by kernel_rfl)) ?_
  go_frame
  refine ls_ex (some 18) (.agg (u8s (kar1 1))) rfl rfl (exec_prod _ _ _ rfl ([1, 0, 0, 0, 0, 0, 0, 0, 0]) ([1, 0, 0, 0, 0, 0, 0, 0, 0]) ([1, 1, 0, 0, 0, 0, 0, 0, 0]) rfl rfl rfl rfl rfl rfl) ?_
  go_frame
  refine ls_ex (some 19) (.agg (u8s ([0, 1, 0, 0, 0, 0, 0, 0, 0]))) rfl rfl (exec_form2 _ _ rfl ([0, 1, 0, 0, 0, 0, 0, 0, 0]) 0 1 rfl rfl (by kernel_rfl)) ?_
  go_frame
  refine ls_ex (some 20) (.agg (u8s ([0, 1, 0, 0, 0, 0, 0, 0, 0]))) rfl rfl (exec_form2 _ _ rfl ([0, 1, 0, 0, 0, 0, 0, 0, 0]) 0 1 rfl rfl (by kernel_rfl)) ?_
  go_frame
  refine ls_ex (some 21) (.int .u8 1) rfl rfl (exec_move _ rfl (.int .u8 1) rfl) ?_
  go_frame
  refine ls_ex (some 22) (.agg (u8s ([0, 1, 1, 0, 0, 0, 0, 0, 0]))) rfl rfl (exec_form3 _ _ _ rfl ([0, 1, 1, 0, 0, 0, 0, 0, 0]) 0 1 1 rfl rfl rfl (by kernel_rfl)) ?_
  go_frame
  refine ls_ex (some 23) (.agg (u8s (kar2 1))) rfl rfl (exec_prod _ _ _ rfl ([0, 1, 0, 0, 0, 0, 0, 0, 0]) ([0, 1, 0, 0, 0, 0, 0, 0, 0]) ([0, 1, 1, 0, 0, 0, 0, 0, 0]) rfl rfl rfl rfl rfl rfl) ?_
  go_frame
  refine ls_ex (some 24) (.agg (u8s ([1, 1, 0, 0, 0, 0, 0, 0, 0]))) rfl rfl (exec_form2 _ _ rfl ([1, 1, 0, 0, 0, 0, 0, 0, 0]) 1 1 rfl rfl (by kernel_rfl)) ?_
  go_frame
  refine ls_ex (some 25) (.agg (u8s ([1, 1, 0, 0, 0, 0, 0, 0, 0]))) rfl rfl (exec_form2 _ _ rfl ([1, 1, 0, 0, 0, 0, 0, 0, 0]) 1 1 rfl rfl (by kernel_rfl)) ?_
  go_frame
  refine ls_ex (some 26) (.agg (u8s ([0, 1, 0, 0, 0, 0, 0, 0, 0]))) rfl rfl (exec_form3 _ _ _ rfl ([0, 1, 0, 0, 0, 0, 0, 0, 0]) 0 1 0 rfl rfl rfl (by kernel_rfl)) ?_
  go_frame
  refine ls_ex (some 27) (.agg (u8s (kar3))) rfl rfl (exec_prod _ _ _ rfl ([1, 1, 0, 0, 0, 0, 0, 0, 0]) ([1, 1, 0, 0, 0, 0, 0, 0, 0]) ([0, 1, 0, 0, 0, 0, 0, 0, 0]) rfl rfl rfl rfl rfl rfl) ?_
  go_frame
  refine ls_op rfl (fun K' hK' => ?_)
  have lz10 := hB.size
  have lz11 := hz5.lt
  refine wp_new (some 28) rfl (exec_kar _ _ _ rfl 1 (by decide) rfl rfl rfl) (fun Wz12 nnz13 => ?_)
  have bz14 := nnz13.below (Below.refl _ _) (Nat.le_refl _)
  replace hB := below_after hB bz14
  replace hz5 := hz5.after bz14
  have ho : Own Wz12 w.heap.size (.slice (some ⟨Wz2.heap.size, 0, none⟩) 3 3) (kar 1) := Own.of_at nnz13.at_ (by decide) (by have := hB.size; omega) (by decide)
  refine hK' _ _ ?_
  clear hK' K' nnz13 bz14
  go_frame
  refine ls_op rfl (fun K' hK' => ?_)
  have lz17 := hB.size
  have lz18 := hz5.lt
  refine wp_call3 (some 29) rfl 56 _ _ _ _ rfl (fun args w => by kernel_rfl) _ _ _ rfl rfl rfl _ (methodOf_c 2 2 2 3 _ 3 3 _) (fun e Wz15 h => ?_)
  obtain ⟨rfl, bz16⟩ := h
  replace hB := below_after hB bz16
  replace hz5 := hz5.after bz16
  replace ho := ho.below bz16
  clear bz16
  refine ⟨_, rfl, ?_⟩
  refine hK' _ _ ?_
  clear hK' K'
  go_frame
  refine ls_op rfl (fun K' hK' => ?_)
  refine wp_store_all 28 _ _ rfl rfl w.heap.size rfl #[.int .i64 2, .int .i64 2, .int .i64 2, .int .i64 3, .slice (some ⟨Wz2.heap.size, 0, none⟩) 3 3] rfl _ _ hz5 5 (by kernel_rfl) rfl rfl (one5 _ _ _ _ _ _ _) (fun Wz19 pz20 => ?_)
  replace hB := pz20.below hB (by omega)
  replace ho := ho.put pz20 (ho.off hz5 (by decide))
  replace hz5 : At Wz19 w.heap.size (.cells #[.int .i64 2, .int .i64 2, .int .i64 2, .int .i64 3, .slice (some ⟨Wz2.heap.size, 0, none⟩) 3 3] 28 (0, 0)) := pz20.at_
  refine hK' _ _ ?_
  clear hK' K' pz20
  refine ls_ex (some 3) (.int .i64 0) rfl rfl (exec_assign _ rfl (.int .i64 0) rfl) ?_
  go_frame
  refine wpList_nil ?_
  go_wp2_with fail
  refine bodyPost_ret (results_at2 rfl _ _ w.heap.size _ _ _ rfl _ rfl hz5 Try.underlying28 rfl 5 (by kernel_rfl) rfl) rfl ?_
  unfold ResH hZ hL
  rw [HC.out]
  exact ⟨_, rfl, ho.mono (by omega), hB⟩
set_option maxHeartbeats 4000000 in
theorem implKar_3 (w : World) :
    Calls Try.prog 28 #[.int .i64 3] w (ResH w (hZ (karCode (3 : Int)) (3 : Int)) (hZ (karCode (3 : Int)) 2) (hZ (karCode (3 : Int)) 2) (hZ (karCode (3 : Int)) 3) (hL (karCode (3 : Int)) (kar ((3 : Int) - 1).toNat)) (karCode (3 : Int))) := by
  have hB := Below.refl w.heap.size w
  have HC : Hid (karCode 3 = 0) := Lib.hid rfl
  have HP : Hid (primeB 3 = true) := Lib.hid rfl
  go_enter Try.func28, Try.ntmps28
  go_upto_region 0 with (fail)
  refine wp_region_lit ?_
  refine ls_op rfl (fun K' hK' => ?_)
  have lz1 := hB.size
  refine wp_new (some 2) rfl (al_impl_Method rfl) (fun Wz2 nnz3 => ?_)
  have bz4 := nnz3.below (Below.refl _ _) (Nat.le_refl _)
  replace hB := below_after hB bz4
  have hz5 : At Wz2 w.heap.size (.cells #[.int .i64 0, .int .i64 0, .int .i64 0, .int .i64 0, .slice none 0 0] 28 (0, 0)) := nnz3.at_
  refine hK' _ _ ?_
  clear hK' K' nnz3 bz4
  go_frame
  refine ls_ex (some 3) (.int .i64 0) rfl rfl (exec_assign _ rfl (.int .i64 0) rfl) ?_
  go_frame
  refine wpList_nil ?_
  go_upto_region 1 with (fail)
  refine wp_region_lit ?_
  refine ls_ex (some 5) (.int .i64 3) rfl rfl (exec_move _ rfl (.int .i64 3) rfl) ?_
  go_frame
  refine ls_op rfl (fun K' hK' => ?_)
  have lz8 := hB.size
  have lz9 := hz5.lt
  refine wp_call1 (some 6) rfl 43 _ _ rfl (fun args w => by kernel_rfl) _ rfl _ (isPrime_c 3 _) (fun e Wz6 h => ?_)
  obtain ⟨rfl, rfl⟩ := h
  rw [HP.out]
  refine ⟨_, rfl, ?_⟩
  refine hK' _ _ ?_
  clear hK' K'
  go_frame
  refine ls_ex (some 7) (.bool false) rfl rfl (exec_not _ _ rfl true rfl) ?_
  go_frame
  refine wpList_nil ?_
  go_upto_region 3 with (fail)
  refine wp_region_lit ?_
  refine ls_ex (some 9) (.int .i64 3) rfl rfl (exec_move _ rfl (.int .i64 3) rfl) ?_
  go_frame
  refine ls_ex (some 10) (.int .i64 2) rfl rfl (exec_sub _ _ _ _ rfl 3 1 2 rfl rfl rfl) ?_
  go_frame
  refine ls_ex (some 11) (.int .u8 2) rfl rfl (exec_conv8k _ rfl 2 2 rfl (by decide) rfl) ?_
  go_frame
  refine ls_ex (some 4) (.int .u8 2) rfl rfl (exec_assign _ rfl (.int .u8 2) rfl) ?_
  go_frame
  refine wpList_nil ?_
  go_upto_region 4 with (fail)
  refine wp_region_lit ?_
  refine ls_ex (some 12) (.int .i64 3) rfl rfl (exec_move _ rfl (.int .i64 3) rfl) ?_
  go_frame
  refine ls_ex (some 13) (.agg #[.int .i64 2, .int .i64 2, .int .i64 3]) rfl rfl (exec_build_box3 _ _ _ rfl 2 2 3 rfl rfl rfl) ?_
  go_frame
  refine ls_ex (some 14) (.agg (u8s ([1, 0, 0, 0, 0, 0, 0, 0, 0]))) rfl rfl (exec_form2 _ _ rfl ([1, 0, 0, 0, 0, 0, 0, 0, 0]) 1 0 rfl rfl (by kernel_rfl)) ?_
  go_frame
  refine ls_ex (some 15) (.agg (u8s ([1, 0, 0, 0, 0, 0, 0, 0, 0]))) rfl rfl (exec_form2 _ _ rfl ([1, 0, 0, 0, 0, 0, 0, 0, 0]) 1 0 rfl rfl (by kernel_rfl)) ?_
  go_frame
  refine ls_ex (some 16) (.int .u8 2) rfl rfl (exec_move _ rfl (.int .u8 2) rfl) ?_
  go_frame
  refine ls_ex (some 17) (.agg (u8s ([1, 2, 0, 0, 0, 0, 0, 0, 0]))) rfl rfl (exec_form3 _ _ _ rfl ([1, 2, 0, 0, 0, 0, 0, 0, 0]) 1 2 0 rfl rfl rfl (by kernel_rfl)) ?_
  go_frame
  refine ls_ex (some 18) (.agg (u8s (kar1 2))) rfl rfl (exec_prod _ _ _ rfl ([1, 0, 0, 0, 0, 0, 0, 0, 0]) ([1, 0, 0, 0, 0, 0, 0, 0, 0]) ([1, 2, 0, 0, 0, 0, 0, 0, 0]) rfl rfl rfl rfl rfl rfl) ?_
  go_frame
  refine ls_ex (some 19) (.agg (u8s ([0, 1, 0, 0, 0, 0, 0, 0, 0]))) rfl rfl (exec_form2 _ _ rfl ([0, 1, 0, 0, 0, 0, 0, 0, 0]) 0 1 rfl rfl (by kernel_rfl)) ?_
  go_frame
  refine ls_ex (some 20) (.agg (u8s ([0, 1, 0, 0, 0, 0, 0, 0, 0]))) rfl rfl (exec_form2 _ _ rfl ([0, 1, 0, 0, 0, 0, 0, 0, 0]) 0 1 rfl rfl (by kernel_rfl)) ?_
  go_frame
  refine ls_ex (some 21) (.int .u8 2) rfl rfl (exec_move _ rfl (.int .u8 2) rfl) ?_
  go_frame
  refine ls_ex (some 22) (.agg (u8s ([0, 2, 1, 0, 0, 0, 0, 0, 0]))) rfl rfl (exec_form3 _ _ _ rfl ([0, 2, 1, 0, 0, 0, 0, 0, 0]) 0 2 1 rfl rfl rfl (by kernel_rfl)) ?_
  go_frame
  refine ls_ex (some 23) (.agg (u8s (kar2 2))) rfl rfl (exec_prod _ _ _ rfl ([0, 1, 0, 0, 0, 0, 0, 0, 0]) ([0, 1, 0, 0, 0, 0, 0, 0, 0]) ([0, 2, 1, 0, 0, 0, 0, 0, 0]) rfl rfl rfl rfl rfl rfl) ?_
  go_frame
  refine ls_ex (some 24) (.agg (u8s ([1, 1, 0, 0, 0, 0, 0, 0, 0]))) rfl rfl (exec_form2 _ _ rfl ([1, 1, 0, 0, 0, 0, 0, 0, 0]) 1 1 rfl rfl (by kernel_rfl)) ?_
  go_frame
  refine ls_ex (some 25) (.agg (u8s ([1, 1, 0, 0, 0, 0, 0, 0, 0]))) rfl rfl (exec_form2 _ _ rfl ([1, 1, 0, 0, 0, 0, 0, 0, 0]) 1 1 rfl rfl (by kernel_rfl)) ?_
  go_frame
  refine ls_ex (some 26) (.agg (u8s ([0, 1, 0, 0, 0, 0, 0, 0, 0]))) rfl rfl (exec_form3 _ _ _ rfl ([0, 1, 0, 0, 0, 0, 0, 0, 0]) 0 1 0 rfl rfl rfl (by kernel_rfl)) ?_
  go_frame
  refine ls_ex (some 27) (.agg (u8s (kar3))) rfl rfl (exec_prod _ _ _ rfl ([1, 1, 0, 0, 0, 0, 0, 0, 0]) ([1, 1, 0, 0, 0, 0, 0, 0, 0]) ([0, 1, 0, 0, 0, 0, 0, 0, 0]) rfl rfl rfl rfl rfl rfl) ?_
  go_frame
  refine ls_op rfl (fun K' hK' => ?_)
  have lz10 := hB.size
  have lz11 := hz5.lt
  refine wp_new (some 28) rfl (exec_kar _ _ _ rfl 2 (by decide) rfl rfl rfl) (fun Wz12 nnz13 => ?_)
  have bz14 := nnz13.below (Below.refl _ _) (Nat.le_refl _)
  replace hB := below_after hB bz14
  replace hz5 := hz5.after bz14
  have ho : Own Wz12 w.heap.size (.slice (some ⟨Wz2.heap.size, 0, none⟩) 3 3) (kar 2) := Own.of_at nnz13.at_ (by decide) (by have := hB.size; omega) (by decide)
  refine hK' _ _ ?_
  clear hK' K' nnz13 bz14
  go_frame
  refine ls_op rfl (fun K' hK' => ?_)
  have lz17 := hB.size
  have lz18 := hz5.lt
  refine wp_call3 (some 29) rfl 56 _ _ _ _ rfl (fun args w => by kernel_rfl) _ _ _ rfl rfl rfl _ (methodOf_c 3 2 2 3 _ 3 3 _) (fun e Wz15 h => ?_)
  obtain ⟨rfl, bz16⟩ := h
  replace hB := below_after hB bz16
  replace hz5 := hz5.after bz16
  replace ho := ho.below bz16
  clear bz16
  refine ⟨_, rfl, ?_⟩
  refine hK' _ _ ?_
  clear hK' K'
  go_frame
  refine ls_op rfl (fun K' hK' => ?_)
  refine wp_store_all 28 _ _ rfl rfl w.heap.size rfl #[.int .i64 3, .int .i64 2, .int .i64 2, .int .i64 3, .slice (some ⟨Wz2.heap.size, 0, none⟩) 3 3] rfl _ _ hz5 5 (by kernel_rfl) rfl rfl (one5 _ _ _ _ _ _ _) (fun Wz19 pz20 => ?_)
  replace hB := pz20.below hB (by omega)
  replace ho := ho.put pz20 (ho.off hz5 (by decide))
  replace hz5 : At Wz19 w.heap.size (.cells #[.int .i64 3, .int .i64 2, .int .i64 2, .int .i64 3, .slice (some ⟨Wz2.heap.size, 0, none⟩) 3 3] 28 (0, 0)) := pz20.at_
  refine hK' _ _ ?_
  clear hK' K' pz20
  refine ls_ex (some 3) (.int .i64 0) rfl rfl (exec_assign _ rfl (.int .i64 0) rfl) ?_
  go_frame
  refine wpList_nil ?_
  go_wp2_with fail
  refine bodyPost_ret (results_at2 rfl _ _ w.heap.size _ _ _ rfl _ rfl hz5 Try.underlying28 rfl 5 (by kernel_rfl) rfl) rfl ?_
  unfold ResH hZ hL
  rw [HC.out]
  exact ⟨_, rfl, ho.mono (by omega), hB⟩
set_option maxHeartbeats 4000000 in
theorem implKar_5 (w : World) :
    Calls Try.prog 28 #[.int .i64 5] w (ResH w (hZ (karCode (5 : Int)) (5 : Int)) (hZ (karCode (5 : Int)) 2) (hZ (karCode (5 : Int)) 2) (hZ (karCode (5 : Int)) 3) (hL (karCode (5 : Int)) (kar ((5 : Int) - 1).toNat)) (karCode (5 : Int))) := by
  have hB := Below.refl w.heap.size w
  have HC : Hid (karCode 5 = 0) := Lib.hid rfl
  have HP : Hid (primeB 5 = true) := Lib.hid rfl
  go_enter Try.func28, Try.ntmps28
  go_upto_region 0 with (fail)
  refine wp_region_lit ?_
  refine ls_op rfl (fun K' hK' => ?_)
  have lz1 := hB.size
  refine wp_new (some 2) rfl (al_impl_Method rfl) (fun Wz2 nnz3 => ?_)
  have bz4 := nnz3.below (Below.refl _ _) (Nat.le_refl _)
  replace hB := below_after hB bz4
  have hz5 : At Wz2 w.heap.size (.cells #[.int .i64 0, .int .i64 0, .int .i64 0, .int .i64 0, .slice none 0 0] 28 (0, 0)) := nnz3.at_
  refine hK' _ _ ?_
  clear hK' K' nnz3 bz4
  go_frame
  refine ls_ex (some 3) (.int .i64 0) rfl rfl (exec_assign _ rfl (.int .i64 0) rfl) ?_
  go_frame
  refine wpList_nil ?_
  go_upto_region 1 with (fail)
  refine wp_region_lit ?_
  refine ls_ex (some 5) (.int .i64 5) rfl rfl (exec_move _ rfl (.int .i64 5) rfl) ?_
  go_frame
  refine ls_op rfl (fun K' hK' => ?_)
  have lz8 := hB.size
  have lz9 := hz5.lt
  refine wp_call1 (some 6) rfl 43 _ _ rfl (fun args w => by kernel_rfl) _ rfl _ (isPrime_c 5 _) (fun e Wz6 h => ?_)
  obtain ⟨rfl, rfl⟩ := h
  rw [HP.out]
  refine ⟨_, rfl, ?_⟩
  refine hK' _ _ ?_
  clear hK' K'
  go_frame
  refine ls_ex (some 7) (.bool false) rfl rfl (exec_not _ _ rfl true rfl) ?_
  go_frame
  refine wpList_nil ?_
  go_upto_region 3 with (fail)
  refine wp_region_lit ?_
  refine ls_ex (some 9) (.int .i64 5) rfl rfl (exec_move _ rfl (.int .i64 5) rfl) ?_
  go_frame
  refine ls_ex (some 10) (.int .i64 4) rfl rfl (exec_sub _ _ _ _ rfl 5 1 4 rfl rfl rfl) ?_
  go_frame
  refine ls_ex (some 11) (.int .u8 4) rfl rfl (exec_conv8k _ rfl 4 4 rfl (by decide) rfl) ?_
  go_frame
  refine ls_ex (some 4) (.int .u8 4) rfl rfl (exec_assign _ rfl (.int .u8 4) rfl) ?_
  go_frame
  refine wpList_nil ?_
  go_upto_region 4 with (fail)
  refine wp_region_lit ?_
  refine ls_ex (some 12) (.int .i64 5) rfl rfl (exec_move _ rfl (.int .i64 5) rfl) ?_
  go_frame
  refine ls_ex (some 13) (.agg #[.int .i64 2, .int .i64 2, .int .i64 3]) rfl rfl (exec_build_box3 _ _ _ rfl 2 2 3 rfl rfl rfl) ?_
  go_frame
  refine ls_ex (some 14) (.agg (u8s ([1, 0, 0, 0, 0, 0, 0, 0, 0]))) rfl rfl (exec_form2 _ _ rfl ([1, 0, 0, 0, 0, 0, 0, 0, 0]) 1 0 rfl rfl (by kernel_rfl)) ?_
  go_frame
  refine ls_ex (some 15) (.agg (u8s ([1, 0, 0, 0, 0, 0, 0, 0, 0]))) rfl rfl (exec_form2 _ _ rfl ([1, 0, 0, 0, 0, 0, 0, 0, 0]) 1 0 rfl rfl (by kernel_rfl)) ?_
  go_frame
  refine ls_ex (some 16) (.int .u8 4) rfl rfl (exec_move _ rfl (.int .u8 4) rfl) ?_
  go_frame
  refine ls_ex (some 17) (.agg (u8s ([1, 4, 0, 0, 0, 0, 0, 0, 0]))) rfl rfl (exec_form3 _ _ _ rfl ([1, 4, 0, 0, 0, 0, 0, 0, 0]) 1 4 0 rfl rfl rfl (by kernel_rfl)) ?_
  go_frame
  refine ls_ex (some 18) (.agg (u8s (kar1 4))) rfl rfl (exec_prod _ _ _ rfl ([1, 0, 0, 0, 0, 0, 0, 0, 0]) ([1, 0, 0, 0, 0, 0, 0, 0, 0]) ([1, 4, 0, 0, 0, 0, 0, 0, 0]) rfl rfl rfl rfl rfl rfl) ?_
  go_frame
  refine ls_ex (some 19) (.agg (u8s ([0, 1, 0, 0, 0, 0, 0, 0, 0]))) rfl rfl (exec_form2 _ _ rfl ([0, 1, 0, 0, 0, 0, 0, 0, 0]) 0 1 rfl rfl (by kernel_rfl)) ?_
  go_frame
  refine ls_ex (some 20) (.agg (u8s ([0, 1, 0, 0, 0, 0, 0, 0, 0]))) rfl rfl (exec_form2 _ _ rfl ([0, 1, 0, 0, 0, 0, 0, 0, 0]) 0 1 rfl rfl (by kernel_rfl)) ?_
  go_frame
  refine ls_ex (some 21) (.int .u8 4) rfl rfl (exec_move _ rfl (.int .u8 4) rfl) ?_
  go_frame
  refine ls_ex (some 22) (.agg (u8s ([0, 4, 1, 0, 0, 0, 0, 0, 0]))) rfl rfl (exec_form3 _ _ _ rfl ([0, 4, 1, 0, 0, 0, 0, 0, 0]) 0 4 1 rfl rfl rfl (by kernel_rfl)) ?_
  go_frame
  refine ls_ex (some 23) (.agg (u8s (kar2 4))) rfl rfl (exec_prod _ _ _ rfl ([0, 1, 0, 0, 0, 0, 0, 0, 0]) ([0, 1, 0, 0, 0, 0, 0, 0, 0]) ([0, 4, 1, 0, 0, 0, 0, 0, 0]) rfl rfl rfl rfl rfl rfl) ?_
  go_frame
  refine ls_ex (some 24) (.agg (u8s ([1, 1, 0, 0, 0, 0, 0, 0, 0]))) rfl rfl (exec_form2 _ _ rfl ([1, 1, 0, 0, 0, 0, 0, 0, 0]) 1 1 rfl rfl (by kernel_rfl)) ?_
  go_frame
  refine ls_ex (some 25) (.agg (u8s ([1, 1, 0, 0, 0, 0, 0, 0, 0]))) rfl rfl (exec_form2 _ _ rfl ([1, 1, 0, 0, 0, 0, 0, 0, 0]) 1 1 rfl rfl (by kernel_rfl)) ?_
  go_frame
  refine ls_ex (some 26) (.agg (u8s ([0, 1, 0, 0, 0, 0, 0, 0, 0]))) rfl rfl (exec_form3 _ _ _ rfl ([0, 1, 0, 0, 0, 0, 0, 0, 0]) 0 1 0 rfl rfl rfl (by kernel_rfl)) ?_
  go_frame
  refine ls_ex (some 27) (.agg (u8s (kar3))) rfl rfl (exec_prod _ _ _ rfl ([1, 1, 0, 0, 0, 0, 0, 0, 0]) ([1, 1, 0, 0, 0, 0, 0, 0, 0]) ([0, 1, 0, 0, 0, 0, 0, 0, 0]) rfl rfl rfl rfl rfl rfl) ?_
  go_frame
  refine ls_op rfl (fun K' hK' => ?_)
  have lz10 := hB.size
  have lz11 := hz5.lt
  refine wp_new (some 28) rfl (exec_kar _ _ _ rfl 4 (by decide) rfl rfl rfl) (fun Wz12 nnz13 => ?_)
  have bz14 := nnz13.below (Below.refl _ _) (Nat.le_refl _)
  replace hB := below_after hB bz14
  replace hz5 := hz5.after bz14
  have ho : Own Wz12 w.heap.size (.slice (some ⟨Wz2.heap.size, 0, none⟩) 3 3) (kar 4) := Own.of_at nnz13.at_ (by decide) (by have := hB.size; omega) (by decide)
  refine hK' _ _ ?_
  clear hK' K' nnz13 bz14
  go_frame
  refine ls_op rfl (fun K' hK' => ?_)
  have lz17 := hB.size
  have lz18 := hz5.lt
  refine wp_call3 (some 29) rfl 56 _ _ _ _ rfl (fun args w => by kernel_rfl) _ _ _ rfl rfl rfl _ (methodOf_c 5 2 2 3 _ 3 3 _) (fun e Wz15 h => ?_)
  obtain ⟨rfl, bz16⟩ := h
  replace hB := below_after hB bz16
  replace hz5 := hz5.after bz16
  replace ho := ho.below bz16
  clear bz16
  refine ⟨_, rfl, ?_⟩
  refine hK' _ _ ?_
  clear hK' K'
  go_frame
  refine ls_op rfl (fun K' hK' => ?_)
  refine wp_store_all 28 _ _ rfl rfl w.heap.size rfl #[.int .i64 5, .int .i64 2, .int .i64 2, .int .i64 3, .slice (some ⟨Wz2.heap.size, 0, none⟩) 3 3] rfl _ _ hz5 5 (by kernel_rfl) rfl rfl (one5 _ _ _ _ _ _ _) (fun Wz19 pz20 => ?_)
  replace hB := pz20.below hB (by omega)
  replace ho := ho.put pz20 (ho.off hz5 (by decide))
  replace hz5 : At Wz19 w.heap.size (.cells #[.int .i64 5, .int .i64 2, .int .i64 2, .int .i64 3, .slice (some ⟨Wz2.heap.size, 0, none⟩) 3 3] 28 (0, 0)) := pz20.at_
  refine hK' _ _ ?_
  clear hK' K' pz20
  refine ls_ex (some 3) (.int .i64 0) rfl rfl (exec_assign _ rfl (.int .i64 0) rfl) ?_
  go_frame
  refine wpList_nil ?_
  go_wp2_with fail
  refine bodyPost_ret (results_at2 rfl _ _ w.heap.size _ _ _ rfl _ rfl hz5 Try.underlying28 rfl 5 (by kernel_rfl) rfl) rfl ?_
  unfold ResH hZ hL
  rw [HC.out]
  exact ⟨_, rfl, ho.mono (by omega), hB⟩
theorem implKaratsubaMethod_c (p : Int) (w : World) : Calls Try.prog 28 #[.int .i64 p] w (ResH w (hZ (karCode p) p) (hZ (karCode p) 2) (hZ (karCode p) 2) (hZ (karCode p) 3) (hL (karCode p) (kar (p - 1).toNat)) (karCode p)) := by
  cases hp : primeB p with
  | false => exact implKar_no p hp w
  | true =>
    have h3 : p = 2 ∨ p = 3 ∨ p = 5 := by
      simp only [primeB, Bool.or_eq_true, beq_iff_eq] at hp
      omega
    rcases h3 with rfl | rfl | rfl
    · exact implKar_2 w
    · exact implKar_3 w
    · exact implKar_5 w
end Go.Proofs.Ytdbcgbbokodndaa
