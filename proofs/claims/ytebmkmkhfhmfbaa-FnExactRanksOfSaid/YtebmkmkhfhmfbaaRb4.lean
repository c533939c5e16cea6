/-
  impl.rankOfForm. (Made by mkrb4.py.)
-/
import Derived.Test.YtebmkmkhfhmfbaaRb2
import Derived.Test.YtebmkmkhfhmfbaaRbS
import Derived.Test.YtebmkmkhfhmfbaaSizes
import Derived.Test.YtebmkmkhfhmfbaaRbF
namespace Go.Proofs.Ytebmkmkhfhmfbaa.B
open Go.RowKit
set_option maxRecDepth 100000
theorem exec_conv8r {o : Oper} {a : Act} {w : World} (x : Operand) (ho : o.op = .convert 2 5 x) (m : Int) (y : Nat) (hx : a.eval x = .int .i64 m) (hy : y < 256) (hm : m = (y : Int)) : (execOp a.eval o).run Try.prog w = .ok (.value (.int .u8 (y : Int))) w := by
  subst hm
  have hw : IntKind.u8.wrap (y : Int) = (y : Int) := by unfold IntKind.wrap; simp [IntKind.signed, IntKind.bits]; omega
  unfold execOp
  simp only [ho, hx]
  simp [go_sem, Try.underlying5, Try.underlying2, hw]
theorem arrFormP : Try.prog.underlying 45 = some (.array (Try.prog.arrayLen 45) (Try.prog.elem 45)) := by kernel_rfl
theorem lenFormP : Try.prog.arrayLen 45 = 9 := by kernel_rfl
theorem sizeFormEP (w : World) : (sizeOf (Try.prog.elem 45)).run Try.prog w = .ok 1 w := by kernel_rfl
theorem exec_form_hiB {o : Oper} {a : Act} {w : World} (x y : Operand) (ho : o.op = .slice 45 x none (some y) none) (g i : Nat) (hi : i ≤ 9) (hx : a.eval x = .pointer (some ⟨g, 0, none⟩)) (hy : a.eval y = .int .i64 (i : Int)) :
    (execOp a.eval o).run Try.prog w = .ok (.value (.slice (some ⟨g, 0, none⟩) i 9)) w := by
  have h := run_sliceAt_array_h (P := Try.prog) w 45 ⟨g, 0, none⟩ arrFormP .i64 (i : Int) (by omega) (by rw [lenFormP]; omega)
  rw [sizeFormEP, lenFormP] at h
  unfold execOp
  simp only [ho, Option.map_some, Option.map_none, hx, hy, Sem.run_bind, Result.andThen_ok, h]
  simp [slicedAt, add_none]

attribute [local irreducible] wpList
theorem tabB_of {p : Int} {n C G PL : Nat} {f : List Nat} {cs : Array Value} (h : Rg p n C (fmR C f)) (hf : f.length = 9) (hPL : n * C = PL) (h9 : PL ≤ 9) (hc : ∀ (i : Nat) (u : Value), (rowVsb G C n)[i]? = some u → cs[i]? = some u) :
    TabP cs (u8s f) G (fun i => i * C) n C (fmR C f) := by
  have hm : ∀ i, i < n → i * C + C ≤ 9 := fun i hi => by
    have h2 : (i + 1) * C ≤ n * C := Nat.mul_le_mul_right _ hi
    rw [Nat.succ_mul] at h2
    omega
  refine ⟨fun i hi => hc i _ (by simp [rowVsb, hi]), fun i hi t X hX => ?_, fun i hi => (h i hi).1, fun i j _ _ hij => ?_⟩
  · have h1 := (List.getElem?_eq_some_iff.1 hX).1
    have hl := (h i hi).1
    have h3 := hm i hi
    rw [u8s_get (by omega)]
    simp only [fmR, List.getElem?_map, List.getElem?_range (show t < C by omega), Option.map_some, Option.some.injEq] at hX
    rw [← hX]
  · rcases Nat.lt_or_ge i j with h1 | h1
    · have h2 : (i + 1) * C ≤ j * C := Nat.mul_le_mul_right _ h1
      rw [Nat.succ_mul] at h2
      exact .inl h2
    · have h2 : (j + 1) * C ≤ i * C := Nat.mul_le_mul_right _ (by omega)
      rw [Nat.succ_mul] at h2
      exact .inr h2
theorem ownSb_open {w : World} {lo n : Nat} {v : Value} {vs : List Value} (h : OwnSb w lo v vs) (hn : vs.length = n) (hp : 0 < n) : ∃ g cap cs, v = .slice (some ⟨g, 0, none⟩) n cap ∧ lo ≤ g ∧ At w g (.cells cs 90 (0, 0)) ∧ n ≤ cap ∧ ∀ (i : Nat) (u : Value), vs[i]? = some u → cs[i]? = some u := by
  rcases h.2 with ⟨_, h0⟩ | ⟨g, cap, cur, rfl, hb, hgg, hle, hcap, hsz, ht⟩
  · omega
  · refine ⟨g, cap, cur, by rw [hn], hb, hgg, by omega, fun t u hu => ?_⟩
    rw [← ht, List.getElem?_take] at hu
    split at hu
    · rwa [Array.getElem?_toList] at hu
    · cases hu
theorem exec_conv8p {o : Oper} {a : Act} {w : World} (x : Operand) (ho : o.op = .convert 2 5 x) (m : Int) (hx : a.eval x = .int .i64 m) (hy : 0 ≤ m ∧ m < 256) : (execOp a.eval o).run Try.prog w = .ok (.value (.int .u8 m)) w := by
  obtain ⟨y, rfl⟩ : ∃ y : Nat, m = y := ⟨m.toNat, by omega⟩
  exact exec_conv8r x ho (y : Int) y hx (by omega) rfl
theorem size_in {n : Nat} (h : 1 ≤ n ∧ n ≤ 3) : sizeB (n : Int) = true := by simp [sizeB]; omega
set_option maxHeartbeats 4000000 in
theorem rankOfForm_c (p : Int) (n C : Nat) (f : List Nat) (w : World) (hpr : primeB p = true) (hn : 1 ≤ n ∧ n ≤ 3) (hC : 1 ≤ C ∧ C ≤ 3) (hf : f.length = 9) (hfp : ∀ x ∈ f, (x : Int) < p) :
    Calls Try.prog 26 #[.int .i64 p, .agg #[.int .i64 n, .int .i64 C], .agg (u8s f)] w (fun e w' => e = .returned (.int .i64 ((frank p n C f : Nat) : Int)) ∧ Below w.heap.size w w') := by
  have hB := Below.refl w.heap.size w
  have hp5 : 2 ≤ p ∧ p ≤ 5 := by have := primeB_5 hpr; simp only [primeB, Bool.or_eq_true, beq_iff_eq] at hpr; omega
  have HRg : Hid (Rg p n C (fmR C f)) := Lib.hid (fmR_rg (by omega) hfp)
  have HFl := Lib.hid hf
  obtain ⟨PL, hPL⟩ : ∃ z9, n * C = z9 := ⟨_, rfl⟩
  have hPL9 : PL ≤ 9 := by rw [← hPL]; exact Nat.mul_le_mul hn.2 hC.2
  have HLL := Lib.hid hPL
  have HPL : Hid ((n : Int) * (C : Int) = ((PL : Nat) : Int)) := Lib.hid (by rw [← hPL]; simp)
  have HV : Hid (frank p n C f = (rkI p n C (fmR C f) C).2) := Lib.hid (by unfold frank; rw [rank_eq hpr HRg.out])
  clear hfp hf hPL hpr
  go_enter Try.func26, Try.ntmps26
  go_upto_region 0 with (fail)
  refine wp_region_lit ?_
  refine ls_op rfl (fun K' hK' => ?_)
  have lz1 := hB.size
  refine wp_new (some 4) rfl (exec_box 52 _ rfl (#[.int .i64 n, .int .i64 C]) rfl) (fun Wz2 nnz3 => ?_)
  have bz4 := nnz3.below (Below.refl _ _) (Nat.le_refl _)
  replace hB := below_after hB bz4
  have hz5 : At Wz2 w.heap.size (.cells #[.int .i64 n, .int .i64 C] 52 (0, 0)) := nnz3.at_
  refine hK' _ _ ?_
  clear hK' K' nnz3 bz4
  go_frame
  refine ls_op rfl (fun K' hK' => ?_)
  have lz6 := hB.size
  have lz7 := hz5.lt
  refine wp_new (some 5) rfl (exec_box 45 _ rfl (u8s (f)) rfl) (fun Wz8 nnz9 => ?_)
  have bz10 := nnz9.below (Below.refl _ _) (Nat.le_refl _)
  replace hB := below_after hB bz10
  replace hz5 := hz5.after bz10
  have hz11 : At Wz8 Wz2.heap.size (.cells (u8s (f)) 45 (0, 0)) := nnz9.at_
  refine hK' _ _ ?_
  clear hK' K' nnz9 bz10
  go_frame
  refine ls_ex (some 6) (.int .i64 0) rfl rfl (exec_assign _ rfl (.int .i64 0) rfl) ?_
  go_frame
  refine wpList_nil ?_
  go_upto_region 1 with (fail)
  refine wp_region_y (zs := [10, 11]) (S := fun w' => Below w.heap.size w w') (S2 := fun w' => At w' w.heap.size (.cells #[.int .i64 n, .int .i64 C] 52 (0, 0))) (by kernel_rfl) ?_
  change wpAnyY _ _ _ _ _ _ _ _ _ _ (World.drew _)
  generalize hwdz12 : World.drew _ = wdz12
  replace hB : Below w.heap.size w wdz12 := by rw [← hwdz12]; exact hB.drew
  replace hz5 : At wdz12 w.heap.size (.cells #[.int .i64 n, .int .i64 C] 52 (0, 0)) := by rw [← hwdz12]; exact hz5
  replace hz11 : At wdz12 Wz2.heap.size (.cells (u8s (f)) 45 (0, 0)) := by rw [← hwdz12]; exact hz11
  clear hwdz12
  refine y_yield 0 (some 7) (.int .i64 p) rfl (by kernel_rfl) (by kernel_rfl) (by kernel_rfl) (fun _ _ _ h => h) rfl rfl hB (fun w' h' => exec_move _ rfl (.int .i64 p) rfl) ?_
  go_frame
  refine y_yield 1 (some 8) (.int .u8 p) rfl (by kernel_rfl) (by kernel_rfl) (by kernel_rfl) (fun _ _ _ h => h) rfl rfl hB (fun w' h' => exec_conv8p _ rfl p rfl (by omega)) ?_
  go_frame
  refine y_yield3 2 (some 9) (.agg #[.int .i64 n, .int .i64 C]) rfl 12 (by kernel_rfl) (by kernel_rfl) (by kernel_rfl) (by kernel_rfl) (by kernel_rfl) (fun _ _ _ h => h) rfl rfl hB hz5 (fun w' h' h2' => exec_load_all 52 _ rfl w.heap.size rfl _ _ _ h2' Try.underlying52 rfl 2 (by kernel_rfl) rfl) ?_
  go_frame
  refine y_yield 5 (some 12) (.pointer (some ⟨w.heap.size, 1, none⟩)) rfl (by kernel_rfl) (by kernel_rfl) (by kernel_rfl) (fun _ _ _ h => h) rfl rfl hB (fun w' h' => exec_fieldAddr 52 _ 1 rfl _ (by kernel_rfl)) ?_
  go_frame
  refine y_yield3 6 (some 13) (.int .i64 C) rfl 12 (by kernel_rfl) (by kernel_rfl) (by kernel_rfl) (by kernel_rfl) (by kernel_rfl) (fun _ _ _ h => h) rfl rfl hB hz5 (fun w' h' h2' => exec_load_one 2 _ rfl w.heap.size 1 rfl (.int .i64 C) _ Try.underlying2 rfl (h2'.at_ 1)) ?_
  go_frame
  refine y_yield 8 (some 15) (.pointer (some ⟨w.heap.size, 1, none⟩)) rfl (by kernel_rfl) (by kernel_rfl) (by kernel_rfl) (fun _ _ _ h => h) rfl rfl hB (fun w' h' => exec_fieldAddr 52 _ 1 rfl _ (by kernel_rfl)) ?_
  go_frame
  refine y_yield3 9 (some 16) (.int .i64 C) rfl 12 (by kernel_rfl) (by kernel_rfl) (by kernel_rfl) (by kernel_rfl) (by kernel_rfl) (fun _ _ _ h => h) rfl rfl hB hz5 (fun w' h' h2' => exec_load_one 2 _ rfl w.heap.size 1 rfl (.int .i64 C) _ Try.underlying2 rfl (h2'.at_ 1)) ?_
  go_frame
  refine y_oper 3 (by kernel_rfl) rfl rfl (fun K' hK' => ?_)
  have lz15 := hB.size
  have lz16 := hz5.lt
  have lz17 := hz11.lt
  refine wp_call1 (some 10) rfl 54 _ _ rfl (fun args w => by kernel_rfl) _ rfl _ (places_c n C _ (size_in hn) (size_in hC)) (fun e Wz13 h => ?_)
  obtain ⟨rfl, bz14⟩ := h
  replace hB := below_after hB bz14
  replace hz5 := hz5.after bz14
  replace hz11 := hz11.after bz14
  rw [HPL.out]
  clear bz14
  refine ⟨_, rfl, ?_⟩
  refine hK' _ _ hB (fun _ => hz5) ?_
  clear hK' K'
  go_frame
  refine y_yield 4 (some 11) (.slice (some ⟨Wz2.heap.size, 0, none⟩) PL 9) rfl (by kernel_rfl) (by kernel_rfl) (by kernel_rfl) (fun _ _ _ h => h) rfl rfl hB (fun w' h' => exec_form_hiB _ _ rfl Wz2.heap.size PL hPL9 rfl rfl) ?_
  go_frame
  refine y_oper 7 (by kernel_rfl) rfl rfl (fun K' hK' => ?_)
  have lz20 := hB.size
  have lz21 := hz5.lt
  have lz22 := hz11.lt
  refine wp_call2 (some 14) rfl 53 _ _ _ rfl (fun args w => by kernel_rfl) _ _ rfl rfl _ (cutRowsB_c Wz2.heap.size PL 9 C n _ HLL.out ⟨by omega, hPL9⟩ (by omega) (by omega)) (fun e Wz18 h => ?_)
  obtain ⟨v8, rfl, hS8, bz19⟩ := h
  have hgc8 := hz11.lt
  replace hB := below_after hB bz19
  replace hz5 := hz5.after bz19
  replace hz11 := hz11.after bz19
  obtain ⟨gT, cT, cs8, rfl, hgT, h58, hcT, hcs8⟩ := ownSb_open hS8 (show (rowVsb Wz2.heap.size C n).length = n by simp [rowVsb]) (by omega)
  have HT8 := Lib.hid (tabB_of (G := Wz2.heap.size) HRg.out HFl.out HLL.out hPL9 hcs8)
  clear hS8 hcs8 bz19
  refine ⟨_, rfl, ?_⟩
  refine hK' _ _ hB (fun _ => hz5) ?_
  clear hK' K'
  go_frame
  refine y_oper 10 (by kernel_rfl) rfl rfl (fun K' hK' => ?_)
  have lz25 := hB.size
  have lz26 := hz5.lt
  have lz27 := hz11.lt
  have lz28 := h58.lt
  refine wp_call3 (some 17) rfl 52 _ _ _ _ rfl (fun args w => by kernel_rfl) _ _ _ rfl rfl rfl _ (rankI_c p gT Wz2.heap.size n C cT w.heap.size _ cs8 (u8s f) (fmR C f) _ hp5 h58 hz11 (by omega) HT8.out HRg.out (by omega) (by omega) hcT (by omega) (by omega)) (fun e Wz23 h => ?_)
  obtain ⟨rfl, bz24⟩ := h
  replace hB := hB.trans bz24
  refine ⟨_, rfl, ?_⟩
  refine hK' _ _ hB (fun h => absurd (by decide) h) ?_
  clear hK' K' hz5 hz11 h58 bz24
  go_frame
  refine y_oper 11 (by kernel_rfl) rfl rfl (fun K' hK' => ?_)
  refine wp_exec (some 6) rfl (.int .i64 ((rkI p n C (fmR C f) C).2 : Nat)) (exec_assign _ rfl (.int .i64 ((rkI p n C (fmR C f) C).2 : Nat)) rfl) ?_
  refine hK' _ _ hB (fun h => absurd (by decide) h) ?_
  clear hK' K'
  go_frame
  refine y_done (by kernel_rfl) ?_ _
  go_wp2_with fail
  go_ret
  exact ⟨by rw [HV.out]; rfl, hB⟩
end Go.Proofs.Ytebmkmkhfhmfbaa.B
