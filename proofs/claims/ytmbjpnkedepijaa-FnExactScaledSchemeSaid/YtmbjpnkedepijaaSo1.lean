/-
  bytes.Compare, cmp.Or, impl.compareProducts. (Made by mkso1.py.)
-/
import Derived.Test.YtmbjpnkedepijaaSo0
import Derived.Test.YtmbjpnkedepijaaLK1
import Derived.Test.YtmbjpnkedepijaaSx
import Derived.Lib.BytesEntry
import Derived.Deep.Draws
import Derived.Sort.Grow
namespace Go.Proofs.Ytmbjpnkedepijaa
open Go.RowKit
set_option maxRecDepth 100000
open Go.Sort Go.Shelf
/-- Worlds behind which only new blocks and draws came. -/
def Gr (w w' : World) : Prop := ∃ q os, w' = grow (w.drewN q) os
theorem Gr.refl (w : World) : Gr w w := ⟨0, #[], by simp [grow, World.drewN]⟩
theorem Gr.drewG {w w' : World} (h : Gr w w') : Gr w w'.drew := by
  obtain ⟨q, os, rfl⟩ := h
  exact ⟨q + 1, os, rfl⟩
theorem Gr.alloc {w w' w'' : World} {o : Obj} (h : Gr w w') (he : w'' = w'.alloc o) : Gr w w'' := by
  obtain ⟨q, os, rfl⟩ := h
  subst he
  exact ⟨q, os.push o, by simp [grow, World.drewN, World.alloc, Array.push_append]⟩
theorem wp_newG {P : Program} {o : Oper} {a : Act} {w : World} {K : Act → World → Prop} {Q : Exit → Act → World → Prop} {v : Value} {ob : Obj} (d : Option Tmp) (hd : o.dst = d) (he : (execOp a.eval o).run P w = .ok (.value v) (w.alloc ob)) (h : ∀ w', New w w' ob → w' = w.alloc ob → K (a.put d v) w') : Oper.wp P o a w K Q :=
  wp_exec d hd v he (h _ (New.alloc _ _) rfl)
theorem arrFormS : Try.prog.underlying 43 = some (.array (Try.prog.arrayLen 43) (Try.prog.elem 43)) := by kernel_rfl
theorem lenFormS : Try.prog.arrayLen 43 = 9 := by kernel_rfl
theorem sizeFormES (w : World) : (sizeOf (Try.prog.elem 43)).run Try.prog w = .ok 1 w := by kernel_rfl
theorem exec_form_all {o : Oper} {a : Act} {w : World} (x : Operand) (ho : o.op = .slice 43 x none none none) (g i : Nat) (hx : a.eval x = .pointer (some ⟨g, i, none⟩)) :
    (execOp a.eval o).run Try.prog w = .ok (.value (.slice (some ⟨g, i, none⟩) 9 9)) w := by
  have h := run_sliceAt_array_all (P := Try.prog) w 43 ⟨g, i, none⟩ arrFormS
  rw [sizeFormES, lenFormS] at h
  unfold execOp
  simp only [ho, Option.map_none, hx, Sem.run_bind, Result.andThen_ok, h]
  simp [slicedAt, add_none]
theorem exec_bsI3 {o : Oper} {a : Act} {w : World} (x y z : Operand) (ho : o.op = .buildSlice 105 3 #[(0, x), (1, y), (2, z)]) (i j k : Int) (hx : a.eval x = .int .i64 i) (hy : a.eval y = .int .i64 j) (hz : a.eval z = .int .i64 k) :
    (execOp a.eval o).run Try.prog w = .ok (.value (.slice (some ⟨w.heap.size, 0, none⟩) 3 3)) (w.alloc (.cells #[.int .i64 i, .int .i64 j, .int .i64 k] 3 (0, 0))) := by
  unfold execOp
  rw [ho]
  simp [hx, hy, hz]
  kernel_rfl
theorem cell_segm {w : World} {g k j : Nat} {q : List Nat} {t : TypeId} (h : At w g (.cells (u8s q) t (0, 0))) (hl : q.length = 27) (hk : k + 9 ≤ 27) (hj : j < 9) : w.cell? ⟨g, k + j, none⟩ = some (.int .u8 (((segm q k 9)[j]?.getD 0 : Nat) : Int)) := by
  have h1 := h.cell (i := k + j) (by omega)
  rw [h1]
  congr 3
  simp only [segm, List.getElem?_take, List.getElem?_drop]
  rw [if_pos (by omega)]
theorem compare_lex : ∀ (x y : List Nat), x.length = y.length → (∀ a ∈ x, a < 256) → (∀ a ∈ y, a < 256) → Lib.compareBytes (x.map fun a : Nat => a.toUInt8) (y.map fun a : Nat => a.toUInt8) = lexC x y
  | [], [], _, _, _ => rfl
  | [], _ :: _, h, _, _ => by simp at h
  | _ :: _, [], h, _, _ => by simp at h
  | a :: x, b :: y, h, hx, hy => by
    have ha := hx a (by simp)
    have hb := hy b (by simp)
    have ea : (a.toUInt8).toNat = a := by simp; omega
    have eb : (b.toUInt8).toNat = b := by simp; omega
    rw [List.map_cons, List.map_cons, Lib.compareBytes, lexC_cons, compare_lex x y (by simpa using h) (fun c hc => hx c (by simp [hc])) (fun c hc => hy c (by simp [hc]))]
    simp only [UInt8.lt_iff_toNat_lt, ea, eb]
theorem run_compareSlices (w : World) (b1 b2 o1 o2 : Nat) (x y : List Nat) (hx : x.length = 9) (hy : y.length = 9) (bx : ∀ a ∈ x, a < 256) (bY : ∀ a ∈ y, a < 256) (h1 : ∀ j, j < 9 → w.cell? ⟨b1, o1 + j, none⟩ = some (.int .u8 ((x[j]?.getD 0 : Nat) : Int))) (h2 : ∀ j, j < 9 → w.cell? ⟨b2, o2 + j, none⟩ = some (.int .u8 ((y[j]?.getD 0 : Nat) : Int))) :
    (Extern.BytealgCompare.compare #[.slice (some ⟨b1, o1, none⟩) 9 9, .slice (some ⟨b2, o2, none⟩) 9 9]).run Try.prog w = .ok (.int .i64 (lexC x y)) w := by
  have key : ∀ (b o : Nat) (z : List Nat), z.length = 9 → (∀ j, j < 9 → w.cell? ⟨b, o + j, none⟩ = some (.int .u8 ((z[j]?.getD 0 : Nat) : Int))) → (Extern.Bytes.bytesOf (.slice (some ⟨b, o, none⟩) 9 9)).run Try.prog w = .ok ⟨(z.map fun a : Nat => a.toUInt8).toArray⟩ w := fun b o z hz hc => by
    have h := Lib.run_loadBytesX (P := Try.prog) w (z.map fun a : Nat => (a : Int)) ⟨b, o, none⟩ .empty (fun j v hv => by
      simp only [List.getElem?_map, Option.map_eq_some_iff] at hv
      obtain ⟨a, ha, rfl⟩ := hv
      have hj : j < 9 := by have := (List.getElem?_eq_some_iff.1 ha).1; omega
      have h9 := hc j hj
      rw [ha] at h9
      unfold Addr.add
      split
      · next e => subst e; exact h9
      · exact h9)
    rw [List.length_map, hz] at h
    show (Extern.Bytes.loadBytes ⟨b, o, none⟩ 9 .empty).run _ w = _
    rw [h]
    congr 1
    apply ByteArray.ext
    simp [Lib.bytesOf, Function.comp_def]
  change Sem.run _ (do pure (goInt (Extern.BytealgCompare.cmp (← Extern.Bytes.bytesOf (.slice (some ⟨b1, o1, none⟩) 9 9)) (← Extern.Bytes.bytesOf (.slice (some ⟨b2, o2, none⟩) 9 9))))) w = _
  simp only [Sem.run_bind, key b1 o1 x hx h1, key b2 o2 y hy h2, Result.andThen, Sem.run_pure]
  rw [Lib.cmp_eq]
  simp only [compare_lex x y (by omega) bx bY]
  rfl
def bytes9 (x : List Nat) : Prop := x.length = 9 ∧ ∀ a ∈ x, a < 256
theorem bytesCompare_c (b1 b2 o1 o2 : Nat) (x y : List Nat) (w : World) (hx : bytes9 x) (hy : bytes9 y) (h1 : ∀ j, j < 9 → w.cell? ⟨b1, o1 + j, none⟩ = some (.int .u8 ((x[j]?.getD 0 : Nat) : Int))) (h2 : ∀ j, j < 9 → w.cell? ⟨b2, o2 + j, none⟩ = some (.int .u8 ((y[j]?.getD 0 : Nat) : Int))) :
    Calls Try.prog 59 #[.slice (some ⟨b1, o1, none⟩) 9 9, .slice (some ⟨b2, o2, none⟩) 9 9] w fun e w' => e = .returned (.int .i64 (lexC x y)) ∧ w = w' := by
  have HR := Lib.hid (run_compareSlices w b1 b2 o1 o2 x y hx.1 hy.1 hx.2 hy.2 h1 h2)
  clear hx hy h1 h2
  go_enter Try.func59, Try.ntmps59
  go_wp2
  rw [run_callFunc_extern Try.func77 (by kernel_rfl) (by kernel_rfl) (by kernel_rfl) (e := Extern.BytealgCompare.compare) (by kernel_rfl), HR.out]
  simp only [Result.andThen]
  rw [Oper.upon_value]
  go_wp2
  go_ret
  exact ⟨rfl, rfl⟩
def orI (x y z : Int) : Int := if x ≠ 0 then x else if y ≠ 0 then y else z
set_option maxHeartbeats 1600000 in
theorem cmpOr_c (b : Nat) (x y z : Int) (w : World) (h : At w b (.cells #[.int .i64 x, .int .i64 y, .int .i64 z] 3 (0, 0))) :
    Calls Try.prog 58 #[.slice (some ⟨b, 0, none⟩) 3 3] w fun e w' => e = .returned (.int .i64 (orI x y z)) ∧ w = w' := by
  have HC : Hid (∀ a : Nat, a < 3 → w.cell? ⟨b, 0 + a, none⟩ = some (.int .i64 (if a = 0 then x else if a = 1 then y else z))) := Lib.hid (fun a ha => by
    have : a = 0 ∨ a = 1 ∨ a = 2 := by omega
    rcases this with rfl | rfl | rfl
    · exact h.at_ 0
    · exact h.at_ 1
    · exact h.at_ 2)
  clear h
  go_enter Try.func58, Try.ntmps58
  go_wp2_with fail
  go_loop [8] (fun v => ∃ a : Nat, a ≤ 3 ∧ v = .int .i64 a ∧ ∀ k : Nat, k < a → (if k = 0 then x else if k = 1 then y else z) = 0) (fun v => 3 - (intOf v).toNat)
  case atStart => exact ⟨0, by omega, rfl, by omega⟩
  case round =>
    obtain ⟨a, ha, rfl, hall⟩ := hrel
    have Hall := Lib.hid hall
    clear hall
    by_cases hlt : a < 3
    · have hx0 := HC.out a hlt
      obtain ⟨V, hV⟩ : ∃ z9, (if a = 0 then x else if a = 1 then y else z) = z9 := ⟨_, rfl⟩
      rw [hV, Nat.zero_add] at hx0
      have HV := Lib.hid hV
      have e0 : IntKind.i64.wrap ((a : Int) + 1) = (a : Int) + 1 := IntWalk.i64_in _ (by omega)
      have hlt' : (a : Int) < 3 := by omega
      clear hV
      by_cases hz : V = 0
      · subst hz
        go_wp2_with fail
        exact ⟨⟨a + 1, by omega, by go_num, fun k hk => by
          by_cases e : k = a
          · rw [e]
            exact HV.out
          · exact Hall.out k (by omega)⟩, by simp [intOf]; omega⟩
      · have hb : (V != 0) = true := by simp [hz]
        have HO : Hid (orI x y z = V) := Lib.hid (by
          have h9 := HV.out
          have hA := Hall.out
          unfold orI
          have : a = 0 ∨ a = 1 ∨ a = 2 := by omega
          rcases this with rfl | rfl | rfl
          · simp at h9
            subst h9
            rw [if_pos hz]
          · have h0 := hA 0 (by omega)
            simp at h0 h9
            subst h9
            rw [if_neg (by omega), if_pos hz]
          · have h0 := hA 0 (by omega)
            have h1 := hA 1 (by omega)
            simp at h0 h1 h9
            subst h9
            rw [if_neg (by omega), if_neg (by omega)])
        clear hz
        go_wp2_with fail
        go_ret
        exact ⟨by rw [HO.out]; rfl, rfl⟩
    · have HO : Hid (orI x y z = 0) := Lib.hid (by
        have hA := Hall.out
        have h0 := hA 0 (by omega)
        have h1 := hA 1 (by omega)
        have h2 := hA 2 (by omega)
        simp at h0 h1 h2
        unfold orI
        rw [if_neg (by omega), if_neg (by omega), h2])
      go_wp2_with fail
      go_ret
      exact ⟨by rw [HO.out]; rfl, rfl⟩
theorem lex27 {q r : List Nat} (hq : q.length = 27) (hr : r.length = 27) : orI (lexC (segm q 0 9) (segm r 0 9)) (lexC (segm q 9 9) (segm r 9 9)) (lexC (segm q 18 9) (segm r 18 9)) = lexC q r := by
  have key : ∀ q : List Nat, q.length = 27 → q = segm q 0 9 ++ (segm q 9 9 ++ segm q 18 9) := fun q hq => by
    apply List.ext_getElem?
    intro i
    simp only [segm, List.drop_zero, List.getElem?_append, List.length_take, List.length_drop, List.getElem?_take, List.getElem?_drop]
    repeat' split
    all_goals first | rfl | (congr 1; omega) | (rw [List.getElem?_eq_none (by omega)]) | omega | skip
  have e : lexC q r = lexC (segm q 0 9 ++ (segm q 9 9 ++ segm q 18 9)) (segm r 0 9 ++ (segm r 9 9 ++ segm r 18 9)) := by rw [← key q hq, ← key r hr]
  rw [e, lexC_append _ _ _ _ (by rw [segm_len (by omega), segm_len (by omega)]), lexC_append _ _ _ _ (by rw [segm_len (by omega), segm_len (by omega)])]
  unfold orI
  by_cases h0 : lexC (segm q 0 9) (segm r 0 9) = 0
  · by_cases h1 : lexC (segm q 9 9) (segm r 9 9) = 0
    · simp [h0, h1]
    · simp [h0, h1]
  · simp [h0]
theorem bytes_segm {q : List Nat} {k : Nat} (h : Bytes 27 q) (hk : k + 9 ≤ 27) : bytes9 (segm q k 9) := by
  refine ⟨segm_len (by rw [h.1]; omega), fun a ha => h.2 a ?_⟩
  unfold segm at ha
  exact List.mem_of_mem_drop (List.mem_of_mem_take ha)
attribute [local irreducible] wpList
set_option maxHeartbeats 4000000 in
theorem compareProducts_c (q r : List Nat) (w : World) (hq : Bytes 27 q) (hr : Bytes 27 r) :
    Calls Try.prog 40 #[.agg (u8s q), .agg (u8s r)] w (fun e w' => e = .returned (.int .i64 (lexC q r)) ∧ Gr w w') := by
  have hB := Below.refl w.heap.size w
  clear hB
  have hg := Gr.refl w
  have Hql := Lib.hid hq.1
  have Hrl := Lib.hid hr.1
  have Hq0 : Hid (bytes9 (segm q 0 9)) := Lib.hid (bytes_segm hq (by omega))
  have Hr0 : Hid (bytes9 (segm r 0 9)) := Lib.hid (bytes_segm hr (by omega))
  obtain ⟨X0, hX0⟩ : ∃ z9, lexC (segm q 0 9) (segm r 0 9) = z9 := ⟨_, rfl⟩
  have HX0 := Lib.hid hX0
  have Hq9 : Hid (bytes9 (segm q 9 9)) := Lib.hid (bytes_segm hq (by omega))
  have Hr9 : Hid (bytes9 (segm r 9 9)) := Lib.hid (bytes_segm hr (by omega))
  obtain ⟨X9, hX9⟩ : ∃ z9, lexC (segm q 9 9) (segm r 9 9) = z9 := ⟨_, rfl⟩
  have HX9 := Lib.hid hX9
  have Hq18 : Hid (bytes9 (segm q 18 9)) := Lib.hid (bytes_segm hq (by omega))
  have Hr18 : Hid (bytes9 (segm r 18 9)) := Lib.hid (bytes_segm hr (by omega))
  obtain ⟨X18, hX18⟩ : ∃ z9, lexC (segm q 18 9) (segm r 18 9) = z9 := ⟨_, rfl⟩
  have HX18 := Lib.hid hX18
  have HO : Hid (orI X0 X9 X18 = lexC q r) := Lib.hid (by rw [← hX0, ← hX9, ← hX18]; exact lex27 hq.1 hr.1)
  clear hX0 hX9 hX18 hq hr
  go_enter Try.func40, Try.ntmps40
  go_upto_region 0 with (fail)
  refine wp_region_lit ?_
  refine ls_op rfl (fun K' hK' => ?_)
  refine wp_newG (some 2) rfl (exec_box 45 _ rfl (u8s (q)) rfl) (fun Wz1 nnz2 hEz5 => ?_)
  have bz3 := nnz2.below (Below.refl _ _) (Nat.le_refl _)
  replace hg := hg.alloc hEz5
  clear hEz5
  have hz4 : At Wz1 w.heap.size (.cells (u8s (q)) 45 (0, 0)) := nnz2.at_
  refine hK' _ _ ?_
  clear hK' K' nnz2 bz3
  go_frame
  refine ls_op rfl (fun K' hK' => ?_)
  have lz6 := hz4.lt
  refine wp_newG (some 3) rfl (exec_box 45 _ rfl (u8s (r)) rfl) (fun Wz7 nnz8 hEz11 => ?_)
  have bz9 := nnz8.below (Below.refl _ _) (Nat.le_refl _)
  replace hg := hg.alloc hEz11
  clear hEz11
  replace hz4 := hz4.after bz9
  have hz10 : At Wz7 Wz1.heap.size (.cells (u8s (r)) 45 (0, 0)) := nnz8.at_
  refine hK' _ _ ?_
  clear hK' K' nnz8 bz9
  go_frame
  refine ls_ex (some 4) (.int .i64 0) rfl rfl (exec_assign _ rfl (.int .i64 0) rfl) ?_
  go_frame
  refine wpList_nil ?_
  go_upto_region 1 with (fail)
  refine wp_region_y (zs := []) (S := fun w' => True) (S2 := fun w' => True) (by kernel_rfl) ?_
  change wpAnyY _ _ _ _ _ _ _ _ _ _ (World.drew _)
  generalize hwdz12 : World.drew _ = wdz12
  replace hg : Gr w wdz12 := by rw [← hwdz12]; exact hg.drewG
  replace hz4 : At wdz12 w.heap.size (.cells (u8s (q)) 45 (0, 0)) := by rw [← hwdz12]; exact hz4
  replace hz10 : At wdz12 Wz1.heap.size (.cells (u8s (r)) 45 (0, 0)) := by rw [← hwdz12]; exact hz10
  clear hwdz12
  refine y_yield 0 (some 5) (.pointer (some ⟨w.heap.size, 0, none⟩)) rfl (by kernel_rfl) (by kernel_rfl) (by kernel_rfl) (fun _ _ _ h => h) rfl rfl trivial (fun w' h' => exec_fieldAddr 45 _ 0 rfl _ (by kernel_rfl)) ?_
  go_frame
  refine y_yield 1 (some 6) (.slice (some ⟨w.heap.size, 0, none⟩) 9 9) rfl (by kernel_rfl) (by kernel_rfl) (by kernel_rfl) (fun _ _ _ h => h) rfl rfl trivial (fun w' h' => exec_form_all _ rfl w.heap.size 0 rfl) ?_
  go_frame
  refine y_yield 2 (some 7) (.pointer (some ⟨Wz1.heap.size, 0, none⟩)) rfl (by kernel_rfl) (by kernel_rfl) (by kernel_rfl) (fun _ _ _ h => h) rfl rfl trivial (fun w' h' => exec_fieldAddr 45 _ 0 rfl _ (by kernel_rfl)) ?_
  go_frame
  refine y_yield 3 (some 8) (.slice (some ⟨Wz1.heap.size, 0, none⟩) 9 9) rfl (by kernel_rfl) (by kernel_rfl) (by kernel_rfl) (fun _ _ _ h => h) rfl rfl trivial (fun w' h' => exec_form_all _ rfl Wz1.heap.size 0 rfl) ?_
  go_frame
  refine y_yield 5 (some 10) (.pointer (some ⟨w.heap.size, 9, none⟩)) rfl (by kernel_rfl) (by kernel_rfl) (by kernel_rfl) (fun _ _ _ h => h) rfl rfl trivial (fun w' h' => exec_fieldAddr 45 _ 1 rfl _ (by kernel_rfl)) ?_
  go_frame
  refine y_yield 6 (some 11) (.slice (some ⟨w.heap.size, 9, none⟩) 9 9) rfl (by kernel_rfl) (by kernel_rfl) (by kernel_rfl) (fun _ _ _ h => h) rfl rfl trivial (fun w' h' => exec_form_all _ rfl w.heap.size 9 rfl) ?_
  go_frame
  refine y_yield 7 (some 12) (.pointer (some ⟨Wz1.heap.size, 9, none⟩)) rfl (by kernel_rfl) (by kernel_rfl) (by kernel_rfl) (fun _ _ _ h => h) rfl rfl trivial (fun w' h' => exec_fieldAddr 45 _ 1 rfl _ (by kernel_rfl)) ?_
  go_frame
  refine y_yield 8 (some 13) (.slice (some ⟨Wz1.heap.size, 9, none⟩) 9 9) rfl (by kernel_rfl) (by kernel_rfl) (by kernel_rfl) (fun _ _ _ h => h) rfl rfl trivial (fun w' h' => exec_form_all _ rfl Wz1.heap.size 9 rfl) ?_
  go_frame
  refine y_yield 10 (some 15) (.pointer (some ⟨w.heap.size, 18, none⟩)) rfl (by kernel_rfl) (by kernel_rfl) (by kernel_rfl) (fun _ _ _ h => h) rfl rfl trivial (fun w' h' => exec_fieldAddr 45 _ 2 rfl _ (by kernel_rfl)) ?_
  go_frame
  refine y_yield 11 (some 16) (.slice (some ⟨w.heap.size, 18, none⟩) 9 9) rfl (by kernel_rfl) (by kernel_rfl) (by kernel_rfl) (fun _ _ _ h => h) rfl rfl trivial (fun w' h' => exec_form_all _ rfl w.heap.size 18 rfl) ?_
  go_frame
  refine y_yield 12 (some 17) (.pointer (some ⟨Wz1.heap.size, 18, none⟩)) rfl (by kernel_rfl) (by kernel_rfl) (by kernel_rfl) (fun _ _ _ h => h) rfl rfl trivial (fun w' h' => exec_fieldAddr 45 _ 2 rfl _ (by kernel_rfl)) ?_
  go_frame
  refine y_yield 13 (some 18) (.slice (some ⟨Wz1.heap.size, 18, none⟩) 9 9) rfl (by kernel_rfl) (by kernel_rfl) (by kernel_rfl) (fun _ _ _ h => h) rfl rfl trivial (fun w' h' => exec_form_all _ rfl Wz1.heap.size 18 rfl) ?_
  go_frame
  refine y_oper 4 (by kernel_rfl) rfl rfl (fun K' hK' => ?_)
  have lz15 := hz4.lt
  have lz16 := hz10.lt
  refine wp_call2 (some 9) rfl 59 _ _ _ rfl (fun args w => by kernel_rfl) _ _ rfl rfl _ (bytesCompare_c w.heap.size Wz1.heap.size 0 0 (segm q 0 9) (segm r 0 9) _ Hq0.out Hr0.out (fun j hj => cell_segm hz4 Hql.out (by omega) hj) (fun j hj => cell_segm hz10 Hrl.out (by omega) hj)) (fun e Wz13 h => ?_)
  obtain ⟨rfl, rfl⟩ := h
  rw [HX0.out]
  refine ⟨_, rfl, ?_⟩
  refine hK' _ _ trivial (fun _ => trivial) ?_
  clear hK' K'
  go_frame
  refine y_oper 9 (by kernel_rfl) rfl rfl (fun K' hK' => ?_)
  have lz19 := hz4.lt
  have lz20 := hz10.lt
  refine wp_call2 (some 14) rfl 59 _ _ _ rfl (fun args w => by kernel_rfl) _ _ rfl rfl _ (bytesCompare_c w.heap.size Wz1.heap.size 9 9 (segm q 9 9) (segm r 9 9) _ Hq9.out Hr9.out (fun j hj => cell_segm hz4 Hql.out (by omega) hj) (fun j hj => cell_segm hz10 Hrl.out (by omega) hj)) (fun e Wz17 h => ?_)
  obtain ⟨rfl, rfl⟩ := h
  rw [HX9.out]
  refine ⟨_, rfl, ?_⟩
  refine hK' _ _ trivial (fun _ => trivial) ?_
  clear hK' K'
  go_frame
  refine y_oper 14 (by kernel_rfl) rfl rfl (fun K' hK' => ?_)
  have lz23 := hz4.lt
  have lz24 := hz10.lt
  refine wp_call2 (some 19) rfl 59 _ _ _ rfl (fun args w => by kernel_rfl) _ _ rfl rfl _ (bytesCompare_c w.heap.size Wz1.heap.size 18 18 (segm q 18 9) (segm r 18 9) _ Hq18.out Hr18.out (fun j hj => cell_segm hz4 Hql.out (by omega) hj) (fun j hj => cell_segm hz10 Hrl.out (by omega) hj)) (fun e Wz21 h => ?_)
  obtain ⟨rfl, rfl⟩ := h
  rw [HX18.out]
  refine ⟨_, rfl, ?_⟩
  refine hK' _ _ trivial (fun _ => trivial) ?_
  clear hK' K'
  go_frame
  refine y_oper 15 (by kernel_rfl) rfl rfl (fun K' hK' => ?_)
  have lz25 := hz4.lt
  have lz26 := hz10.lt
  refine wp_newG (some 20) rfl (exec_bsI3 _ _ _ rfl X0 X9 X18 rfl rfl rfl) (fun Wz27 nnz28 hEz31 => ?_)
  have bz29 := nnz28.below (Below.refl _ _) (Nat.le_refl _)
  replace hg := hg.alloc hEz31
  clear hEz31
  replace hz4 := hz4.after bz29
  replace hz10 := hz10.after bz29
  have hz30 : At Wz27 wdz12.heap.size (.cells #[.int .i64 X0, .int .i64 X9, .int .i64 X18] 3 (0, 0)) := nnz28.at_
  refine hK' _ _ trivial (fun _ => trivial) ?_
  clear hK' K' nnz28 bz29
  go_frame
  refine y_oper 16 (by kernel_rfl) rfl rfl (fun K' hK' => ?_)
  have lz34 := hz4.lt
  have lz35 := hz10.lt
  have lz36 := hz30.lt
  refine wp_call1 (some 21) rfl 58 _ _ rfl (fun args w => by kernel_rfl) _ rfl _ (cmpOr_c wdz12.heap.size X0 X9 X18 _ hz30) (fun e Wz32 h => ?_)
  obtain ⟨rfl, rfl⟩ := h
  refine ⟨_, rfl, ?_⟩
  refine hK' _ _ trivial (fun _ => trivial) ?_
  clear hK' K'
  go_frame
  refine y_oper 17 (by kernel_rfl) rfl rfl (fun K' hK' => ?_)
  refine wp_exec (some 4) rfl (.int .i64 (orI X0 X9 X18)) (exec_assign _ rfl (.int .i64 (orI X0 X9 X18)) rfl) ?_
  refine hK' _ _ trivial (fun _ => trivial) ?_
  clear hK' K'
  go_frame
  refine y_done (by kernel_rfl) ?_ _
  go_wp2_with fail
  go_ret
  exact ⟨by rw [HO.out]; rfl, hg⟩
end Go.Proofs.Ytmbjpnkedepijaa
