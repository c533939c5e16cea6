/-
  impl.tensorOfOnes with TriangularTensor$1. (Made by mkones.py.)
-/
import Derived.Test.YtdbcgbbokodndaaTen7Ones
import Derived.Test.YtdbcgbbokodndaaSx
import Derived.Test.YtdbcgbbokodndaaTen1
namespace Go.Proofs.Ytdbcgbbokodndaa
open Go.RowKit
set_option maxRecDepth 100000
theorem exec_mkfn1o {P : Program} {o : Oper} {a : Act} {w : World} (f : FuncId) (x : Operand) (ho : o.op = .makeFunc (.func f) #[] #[x]) (u : Value) (hx : a.eval x = u) : (execOp a.eval o).run P w = .ok (.value (.func (.func f) #[] #[u])) w := by
  subst hx
  unfold execOp
  simp only [ho]
  simp [go_sem]
theorem OwnI.ne_lt9 {w : World} {lo g : Nat} {v : Value} {xs : List Int} (h : OwnI w lo v xs) (hg : g < lo) : some g ≠ v.ownBlock := fun e => by have := (h.lt e.symm).1; omega
attribute [local irreducible] wpList
theorem al_impl_Tensor {o : Oper} {a : Act} {w : World} (ho : o.op = .alloc 31) : (execOp a.eval o).run Try.prog w = .ok (.value (.pointer (some ⟨w.heap.size, 0, none⟩))) (w.alloc (.cells #[.int .i64 0, .int .i64 0, .int .i64 0, .int .i64 0, .slice none 0 0] 31 (0, 0))) := by
  unfold execOp
  rw [ho]
  kernel_rfl
theorem ones1Tri_c (c0 : Nat) (i j k g : Nat) (b : Bool) (w : World) (hg : At w g (.cells #[.func (.func 54) #[] #[.pointer (some ⟨c0, 0, none⟩)]] 45 (0, 0))) (hC : ∀ w', Below w.heap.size w w' → Calls Try.prog 54 #[.int .i64 i, .int .i64 j, .int .i64 k, .pointer (some ⟨c0, 0, none⟩)] w' fun e w2 => e = .returned (.bool b) ∧ Below w'.heap.size w' w2) :
    Calls Try.prog 71 #[.int .i64 i, .int .i64 j, .int .i64 k, .pointer (some ⟨g, 0, none⟩)] w fun e w2 => e = .returned (.int .i64 (if b = true then 1 else 0)) ∧ Below w.heap.size w w2 := by
  have c0 : w.cell? ⟨g, 0, none⟩ = some (.func (.func 54) #[] #[.pointer (some ⟨c0, 0, none⟩)]) := hg.at_ 0
  have HC := Lib.hid (hC w (Below.refl _ _))
  clear hC hg
  cases b with
  | false =>
    go_enter Try.func71, Try.ntmps71
    go_wp2_with fail
    refine HC.out.mono ?_
    rintro e w1 ⟨rfl, b1⟩
    go_wp2_with fail
    go_ret
    exact ⟨rfl, b1⟩
  | true =>
    go_enter Try.func71, Try.ntmps71
    go_wp2_with fail
    refine HC.out.mono ?_
    rintro e w1 ⟨rfl, b1⟩
    go_wp2_with fail
    go_ret
    exact ⟨rfl, b1⟩
/-- 1 where it is told, 0 elsewhere. -/
def oneF (B : Nat → Nat → Nat → Bool) (i j k : Nat) : Int := if B i j k = true then 1 else 0
theorem oneF_nn (B : Nat → Nat → Nat → Bool) (i j k : Nat) : 0 ≤ oneF B i j k := by unfold oneF; split <;> omega
set_option maxHeartbeats 4000000 in
theorem tensorOfOnesTri_c (p : Int) (n0 n1 n2 : Nat) (c0 : Nat) (B : Nat → Nat → Nat → Bool) (w : World) (hp : 1 ≤ p) (h0 : sideB n0 = true) (h1 : sideB n1 = true) (h2 : sideB n2 = true) (hC : ∀ (i j k : Nat) (w' : World), i < n0 → j < n1 → k < n2 → Below w.heap.size w w' → Calls Try.prog 54 #[.int .i64 i, .int .i64 j, .int .i64 k, .pointer (some ⟨c0, 0, none⟩)] w' fun e w2 => e = .returned (.bool (B i j k)) ∧ Below w'.heap.size w' w2) :
    Calls Try.prog 51 #[.int .i64 p, .agg #[.int .i64 n0, .int .i64 n1, .int .i64 n2], .func (.func 54) #[] #[.pointer (some ⟨c0, 0, none⟩)]] w (fun e w' => ∃ v, e = .returned (.agg #[.int .i64 p, .int .i64 n0, .int .i64 n1, .int .i64 n2, v]) ∧ OwnI w' w.heap.size v (genL n1 n2 p (oneF B) (n0 * n1 * n2)) ∧ Below w.heap.size w w') := by
  have hB := Below.refl w.heap.size w
  have HC := Lib.hid hC
  obtain ⟨N7, hN7⟩ : ∃ N, (genL n1 n2 p (oneF B) (n0 * n1 * n2)).length = N := ⟨_, rfl⟩
  have HN := Lib.hid hN7
  clear hC hN7
  go_enter Try.func51, Try.ntmps51
  go_upto_region 0 with (fail)
  refine wp_region_lit ?_
  refine ls_op rfl (fun K' hK' => ?_)
  have lz1 := hB.size
  refine wp_new (some 4) rfl (exec_box 68 _ rfl (#[.int .i64 n0, .int .i64 n1, .int .i64 n2]) rfl) (fun Wz2 nnz3 => ?_)
  have bz4 := nnz3.below (Below.refl _ _) (Nat.le_refl _)
  replace hB := below_after hB bz4
  have hz5 : At Wz2 w.heap.size (.cells #[.int .i64 n0, .int .i64 n1, .int .i64 n2] 68 (0, 0)) := nnz3.at_
  refine hK' _ _ ?_
  clear hK' K' nnz3 bz4
  go_frame
  refine ls_op rfl (fun K' hK' => ?_)
  have lz6 := hB.size
  have lz7 := hz5.lt
  refine wp_new (some 5) rfl (exec_box 45 _ rfl (#[.func (.func 54) #[] #[.pointer (some ⟨c0, 0, none⟩)]]) rfl) (fun Wz8 nnz9 => ?_)
  have bz10 := nnz9.below (Below.refl _ _) (Nat.le_refl _)
  replace hB := below_after hB bz10
  replace hz5 := hz5.after bz10
  have hz11 : At Wz8 Wz2.heap.size (.cells #[.func (.func 54) #[] #[.pointer (some ⟨c0, 0, none⟩)]] 45 (0, 0)) := nnz9.at_
  refine hK' _ _ ?_
  clear hK' K' nnz9 bz10
  go_frame
  refine ls_op rfl (fun K' hK' => ?_)
  have lz12 := hB.size
  have lz13 := hz5.lt
  have lz14 := hz11.lt
  refine wp_new (some 6) rfl (al_impl_Tensor rfl) (fun Wz15 nnz16 => ?_)
  have bz17 := nnz16.below (Below.refl _ _) (Nat.le_refl _)
  replace hB := below_after hB bz17
  replace hz5 := hz5.after bz17
  replace hz11 := hz11.after bz17
  have hz18 : At Wz15 Wz8.heap.size (.cells #[.int .i64 0, .int .i64 0, .int .i64 0, .int .i64 0, .slice none 0 0] 31 (0, 0)) := nnz16.at_
  refine hK' _ _ ?_
  clear hK' K' nnz16 bz17
  go_frame
  refine wpList_nil ?_
  go_upto_region 1 with (fail)
  refine wp_region_lit ?_
  refine ls_ex (some 7) (.int .i64 p) rfl rfl (exec_move _ rfl (.int .i64 p) rfl) ?_
  go_frame
  refine ls_ex (some 8) (.agg #[.int .i64 n0, .int .i64 n1, .int .i64 n2]) rfl rfl (exec_load_all 68 _ rfl w.heap.size rfl _ _ _ hz5 Try.underlying68 rfl 3 (by kernel_rfl) rfl) ?_
  go_frame
  refine ls_ex (some 9) (.func (.func 71) #[] #[.pointer (some ⟨Wz2.heap.size, 0, none⟩)]) rfl rfl (exec_mkfn1o _ _ rfl (.pointer (some ⟨Wz2.heap.size, 0, none⟩)) rfl) ?_
  go_frame
  refine ls_op rfl (fun K' hK' => ?_)
  have lz21 := hB.size
  have lz22 := hz5.lt
  have lz23 := hz11.lt
  have lz24 := hz18.lt
  refine wp_call3 (some 10) rfl 47 _ _ _ _ rfl (fun args w => by kernel_rfl) _ _ _ rfl rfl rfl _ (tensorWithOnes_c p n0 n1 n2 Wz2.heap.size (oneF B) _ hp h0 h1 h2 (fun i j k w9 hi hj hk hb => ⟨oneF_nn B i j k, ones1Tri_c c0 i j k Wz2.heap.size (B i j k) w9 (hz11.after hb) (fun w8 hb8 => HC.out i j k w8 hi hj hk (below_after (below_after hB hb) hb8))⟩)) (fun e Wz19 h => ?_)
  obtain ⟨v7, rfl, ho, bz20⟩ := h
  replace hB := below_after hB bz20
  replace hz5 := hz5.after bz20
  replace hz11 := hz11.after bz20
  replace hz18 := hz18.after bz20
  obtain ⟨A7, c7, rfl, _⟩ := ho.rd
  rw [HN.out] at *
  clear bz20
  refine ⟨_, rfl, ?_⟩
  refine hK' _ _ ?_
  clear hK' K'
  go_frame
  refine ls_op rfl (fun K' hK' => ?_)
  refine wp_store_all 31 _ _ rfl rfl Wz8.heap.size rfl #[.int .i64 p, .int .i64 n0, .int .i64 n1, .int .i64 n2, .slice A7 N7 c7] rfl _ _ hz18 5 (by kernel_rfl) rfl rfl (one5 _ _ _ _ _ _ _) (fun Wz25 pz26 => ?_)
  replace hB := pz26.below hB (by omega)
  replace hz5 := pz26.other hz5 (by omega)
  replace hz11 := pz26.other hz11 (by omega)
  replace ho := ho.put pz26 (ho.ne_lt9 (by omega))
  replace hz18 : At Wz25 Wz8.heap.size (.cells #[.int .i64 p, .int .i64 n0, .int .i64 n1, .int .i64 n2, .slice A7 N7 c7] 31 (0, 0)) := pz26.at_
  refine hK' _ _ ?_
  clear hK' K' pz26
  refine wpList_nil ?_
  go_wp2_with fail
  refine bodyPost_ret (results_at rfl _ _ Wz8.heap.size _ _ _ rfl hz18 Try.underlying31 rfl 5 (by kernel_rfl) rfl) rfl ?_
  exact ⟨_, rfl, ho.mono (by omega), hB⟩
end Go.Proofs.Ytdbcgbbokodndaa
