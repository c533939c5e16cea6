/-
  slices.ContainsFunc over products by areProducts' literal; impl.areProducts. (Made by mkare.py.)
-/
import Derived.Test.YtebmkmkhfhmfbaaProd
import Derived.Test.YtebmkmkhfhmfbaaSx
namespace Go.Proofs.Ytebmkmkhfhmfbaa
open Go.RowKit
set_option maxRecDepth 100000
attribute [local irreducible] wpList
theorem exec_mkfn2p {P : Program} {o : Oper} {a : Act} {w : World} (f : FuncId) (x y : Operand) (ho : o.op = .makeFunc (.func f) #[] #[x, y]) (u v : Value) (hx : a.eval x = u) (hy : a.eval y = v) : (execOp a.eval o).run P w = .ok (.value (.func (.func f) #[] #[u, v])) w := by
  subst hx hy
  unfold execOp
  simp only [ho]
  simp [go_sem]
set_option maxHeartbeats 4000000 in
theorem areProducts1_c (p : Int) (R C : Nat → Int) (gp gs : Nat) (q : List Nat) (w : World) (hgp : At w gp (.cells #[.int .i64 p] 2 (0, 0))) (hgs : At w gs (.cells #[.int .i64 (R 0), .int .i64 (C 0), .int .i64 (R 1), .int .i64 (C 1), .int .i64 (R 2), .int .i64 (C 2)] 53 (0, 0))) (hp : 0 < p) (hq : Bytes 27 q) (hS : ShOk R C) :
    Calls Try.prog 70 #[.agg (u8s q), .pointer (some ⟨gp, 0, none⟩), .pointer (some ⟨gs, 0, none⟩)] w (fun e w' => e = .returned (.bool (!prodG p R C q)) ∧ Below w.heap.size w w') := by
  have hB := Below.refl w.heap.size w
  skip
  go_enter Try.func70, Try.ntmps70
  go_upto_region 0 with (fail)
  refine wp_region_lit ?_
  refine ls_op rfl (fun K' hK' => ?_)
  have lz1 := hB.size
  have lz2 := hgp.lt
  have lz3 := hgs.lt
  refine wp_new (some 3) rfl (exec_box 47 _ rfl (u8s (q)) rfl) (fun Wz4 nnz5 => ?_)
  have bz6 := nnz5.below (Below.refl _ _) (Nat.le_refl _)
  replace hB := below_after hB bz6
  replace hgp := hgp.after bz6
  replace hgs := hgs.after bz6
  have hz7 : At Wz4 w.heap.size (.cells (u8s (q)) 47 (0, 0)) := nnz5.at_
  refine hK' _ _ ?_
  clear hK' K' nnz5 bz6
  go_frame
  refine ls_ex (some 4) (.bool false) rfl rfl (exec_assign _ rfl (.bool false) rfl) ?_
  go_frame
  refine wpList_nil ?_
  go_upto_region 1 with (fail)
  refine wp_region_lit ?_
  refine ls_ex (some 5) (.int .i64 p) rfl rfl (exec_load_one 2 _ rfl gp 0 rfl (.int .i64 p) _ Try.underlying2 rfl (hgp.at_ 0)) ?_
  go_frame
  refine ls_ex (some 6) (.agg #[.int .i64 (R 0), .int .i64 (C 0), .int .i64 (R 1), .int .i64 (C 1), .int .i64 (R 2), .int .i64 (C 2)]) rfl rfl (exec_load_all 53 _ rfl gs rfl _ _ _ hgs Try.underlying53 rfl 6 (by kernel_rfl) rfl) ?_
  go_frame
  refine ls_ex (some 7) (.agg (u8s (q))) rfl rfl (exec_load_all 47 _ rfl w.heap.size rfl _ _ _ hz7 Try.underlying47 rfl 27 (by kernel_rfl) ((u8s_size _).trans hq.len)) ?_
  go_frame
  refine ls_op rfl (fun K' hK' => ?_)
  have lz10 := hB.size
  have lz11 := hgp.lt
  have lz12 := hgs.lt
  have lz13 := hz7.lt
  refine wp_call3 (some 8) rfl 71 _ _ _ _ rfl (fun args w => by kernel_rfl) _ _ _ rfl rfl rfl _ (isProduct_c p R C q hp hq hS _) (fun e Wz8 h => ?_)
  obtain ⟨rfl, bz9⟩ := h
  replace hB := below_after hB bz9
  replace hgp := hgp.after bz9
  replace hgs := hgs.after bz9
  replace hz7 := hz7.after bz9
  clear bz9
  refine ⟨_, rfl, ?_⟩
  refine hK' _ _ ?_
  clear hK' K'
  go_frame
  refine ls_ex (some 9) (.bool (!(prodG p R C q))) rfl rfl (exec_not _ _ rfl ((prodG p R C q)) rfl) ?_
  go_frame
  refine ls_ex (some 4) (.bool (!(prodG p R C q))) rfl rfl (exec_assign _ rfl (.bool (!(prodG p R C q))) rfl) ?_
  go_frame
  refine wpList_nil ?_
  go_wp2_with fail
  go_ret
  exact ⟨rfl, hB⟩
/-- Where a list has a product that is none, or -1. -/
def IdxPr (p : Int) (R C : Nat → Int) (ts : List (List Nat)) (r : Int) : Prop := (r = -1 ∧ ts.all (prodG p R C) = true) ∨ (0 ≤ r ∧ ts.all (prodG p R C) = false)
def prodsG (p : Int) (R C : Nat → Int) (ts : List (List Nat)) (a : Nat) : Bool := (ts.take a).all (prodG p R C)
theorem prodsG_step {p : Int} {R C : Nat → Int} {ts : List (List Nat)} {a : Nat} (h : a < ts.length) (h1 : prodsG p R C ts a = true) (h2 : prodG p R C ts[a] = true) : prodsG p R C ts (a + 1) = true := by
  unfold prodsG at *
  rw [List.take_succ_eq_append_getElem h, List.all_append, h1]
  simp [h2]
theorem prodsG_no {p : Int} {R C : Nat → Int} {ts : List (List Nat)} {i : Nat} (hi : i < ts.length) (h : prodG p R C ts[i] = false) : ts.all (prodG p R C) = false := by
  rw [List.all_eq_false]
  exact ⟨_, List.getElem_mem hi, by simp [h]⟩
set_option maxHeartbeats 1600000 in
theorem indexProd_c (p : Int) (R C : Nat → Int) (gp gs : Nat) (A : Option Addr) (c : Nat) (ts : List (List Nat)) (w : World) (hr : Rd w A ts) (hn : ts.length ≤ 1048576) (hgp : At w gp (.cells #[.int .i64 p] 2 (0, 0))) (hgs : At w gs (.cells #[.int .i64 (R 0), .int .i64 (C 0), .int .i64 (R 1), .int .i64 (C 1), .int .i64 (R 2), .int .i64 (C 2)] 53 (0, 0))) (hp : 0 < p) (hS : ShOk R C) :
    Calls Try.prog 79 #[.slice A ts.length c, .func (.func 70) #[] #[.pointer (some ⟨gp, 0, none⟩), .pointer (some ⟨gs, 0, none⟩)]] w fun e w' => ∃ r, e = .returned (.int .i64 r) ∧ IdxPr p R C ts r ∧ Below w.heap.size w w' := by
  go_enter Try.func79, Try.ntmps79
  go_wp2_with fail
  go_loopw [8] (fun v wr => ∃ a : Nat, a ≤ ts.length ∧ v = .int .i64 a ∧ Hid (prodsG p R C ts a = true) ∧ Below w.heap.size w wr) (fun v _ => ts.length - (intOf v).toNat)
  case atStart => exact ⟨0, by omega, rfl, Lib.hid rfl, Below.refl _ _⟩
  case round =>
    obtain ⟨a, ha, rfl, HO, hB⟩ := hrel
    by_cases hlt : a < ts.length
    · obtain ⟨b, off, rfl, hc⟩ := (hr.keep hB).at_ hlt
      have Hc := Lib.hid hc
      clear hc
      have e0 : IntKind.i64.wrap ((a : Int) + 1) = (a : Int) + 1 := IntWalk.i64_in _ (by omega)
      have hlt' : (a : Int) < (ts.length : Int) := by omega
      have hq := hr.good _ (List.getElem_mem hlt)
      have HC := Lib.hid (areProducts1_c p R C gp gs ts[a] wr (hgp.after hB) (hgs.after hB) hp hq hS)
      have Hq := Lib.hid hq.len
      cases hb : prodG p R C ts[a] with
      | false =>
        have Hno : Hid (IdxPr p R C ts a) := Lib.hid (.inr ⟨by omega, prodsG_no hlt hb⟩)
        rw [hb] at HC
        clear hb hr hgp hgs
        go_wp2_with (refine wpList_of_exec rfl (exec_load_cells 47 _ rfl b (off + a * 27) rfl ts[a] _ 27 Hc.out Try.underlying47 rfl (by kernel_rfl) Hq.out) ?_)
        refine HC.out.mono ?_
        rintro e w' ⟨rfl, b1⟩
        go_wp2_with fail
        go_ret
        exact ⟨_, rfl, Hno.out, below_after hB b1⟩
      | true =>
        have Hstep : Hid (prodsG p R C ts (a + 1) = true) := Lib.hid (prodsG_step hlt HO.out hb)
        rw [hb] at HC
        clear hb hr hgp hgs
        go_wp2_with (refine wpList_of_exec rfl (exec_load_cells 47 _ rfl b (off + a * 27) rfl ts[a] _ 27 Hc.out Try.underlying47 rfl (by kernel_rfl) Hq.out) ?_)
        refine HC.out.mono ?_
        rintro e w' ⟨rfl, b1⟩
        go_wp2_with fail
        exact ⟨⟨a + 1, by omega, by go_num, Hstep, below_after hB b1⟩, by simp [intOf]; omega⟩
    · have Hyes : Hid (IdxPr p R C ts (-1)) := Lib.hid (.inl ⟨rfl, by have h := HO.out; rw [show a = ts.length by omega] at h; unfold prodsG at h; rwa [List.take_length] at h⟩)
      have hlt' : ¬ (a : Int) < (ts.length : Int) := by omega
      clear hr hgp hgs
      go_wp2_with fail
      go_ret
      exact ⟨_, rfl, Hyes.out, hB⟩
theorem containsProd_c (p : Int) (R C : Nat → Int) (gp gs : Nat) (A : Option Addr) (c : Nat) (ts : List (List Nat)) (w : World) (hr : Rd w A ts) (hn : ts.length ≤ 1048576) (hgp : At w gp (.cells #[.int .i64 p] 2 (0, 0))) (hgs : At w gs (.cells #[.int .i64 (R 0), .int .i64 (C 0), .int .i64 (R 1), .int .i64 (C 1), .int .i64 (R 2), .int .i64 (C 2)] 53 (0, 0))) (hp : 0 < p) (hS : ShOk R C) :
    Calls Try.prog 69 #[.slice A ts.length c, .func (.func 70) #[] #[.pointer (some ⟨gp, 0, none⟩), .pointer (some ⟨gs, 0, none⟩)]] w fun e w' => e = .returned (.bool (!(ts.all (prodG p R C)))) ∧ Below w.heap.size w w' := by
  have HC := Lib.hid (indexProd_c p R C gp gs A c ts w hr hn hgp hgs hp hS)
  clear hr hgp hgs
  go_enter Try.func69, Try.ntmps69
  go_wp2_with fail
  refine HC.out.mono ?_
  rintro e w' ⟨r, rfl, hr, b1⟩
  rcases hr with ⟨rfl, hb⟩ | ⟨h0, hb⟩
  · have Hb := Lib.hid hb
    clear hb
    go_wp2_with fail
    go_ret
    exact ⟨by rw [Hb.out]; rfl, b1⟩
  · have Hb := Lib.hid hb
    have hd : decide (0 ≤ r) = true := by simp only [decide_eq_true_eq]; exact h0
    clear hb h0
    go_wp2_with fail
    go_ret
    exact ⟨by rw [Hb.out]; rfl, b1⟩
/-- The products of a scheme or a method. -/
def areB (p : Int) (R C : Nat → Int) (qs : List (List Nat)) : Bool := decide (qs.length ≤ 30) && qs.all (prodG p R C)
set_option maxHeartbeats 4000000 in
theorem areProducts_a (p : Int) (R C : Nat → Int) (A : Option Addr) (c : Nat) (qs : List (List Nat)) (w : World) (hR : Rd w A qs) (hlen : qs.length ≤ 1048576) (hp : 0 < p) (hS : ShOk R C) (h30 : 30 < qs.length) :
    Calls Try.prog 50 #[.int .i64 p, .agg #[.int .i64 (R 0), .int .i64 (C 0), .int .i64 (R 1), .int .i64 (C 1), .int .i64 (R 2), .int .i64 (C 2)], .slice A qs.length c] w (fun e w' => e = .returned (.bool (areB p R C qs)) ∧ Below w.heap.size w w') := by
  have hB := Below.refl w.heap.size w
  have _u0 := hR
  have _u1 := hlen
  have _u2 := hS
  have _u3 := hp
  clear _u0 _u1 _u2 _u3
  have HV : Hid (areB p R C qs = false) := Lib.hid (by simp [areB]; omega)
  go_enter Try.func50, Try.ntmps50
  go_upto_region 0 with (fail)
  refine wp_region_lit ?_
  refine ls_op rfl (fun K' hK' => ?_)
  have lz1 := hB.size
  refine wp_new (some 3) rfl (exec_box 2 _ rfl (#[.int .i64 p]) rfl) (fun Wz2 nnz3 => ?_)
  have bz4 := nnz3.below (Below.refl _ _) (Nat.le_refl _)
  replace hB := below_after hB bz4
  have hz5 : At Wz2 w.heap.size (.cells #[.int .i64 p] 2 (0, 0)) := nnz3.at_
  refine hK' _ _ ?_
  clear hK' K' nnz3 bz4
  go_frame
  refine ls_op rfl (fun K' hK' => ?_)
  have lz6 := hB.size
  have lz7 := hz5.lt
  refine wp_new (some 4) rfl (exec_box 53 _ rfl (#[.int .i64 (R 0), .int .i64 (C 0), .int .i64 (R 1), .int .i64 (C 1), .int .i64 (R 2), .int .i64 (C 2)]) rfl) (fun Wz8 nnz9 => ?_)
  have bz10 := nnz9.below (Below.refl _ _) (Nat.le_refl _)
  replace hB := below_after hB bz10
  replace hz5 := hz5.after bz10
  have hz11 : At Wz8 Wz2.heap.size (.cells #[.int .i64 (R 0), .int .i64 (C 0), .int .i64 (R 1), .int .i64 (C 1), .int .i64 (R 2), .int .i64 (C 2)] 53 (0, 0)) := nnz9.at_
  refine hK' _ _ ?_
  clear hK' K' nnz9 bz10
  go_frame
  refine ls_ex (some 6) (.bool false) rfl rfl (exec_assign _ rfl (.bool false) rfl) ?_
  go_frame
  refine wpList_nil ?_
  go_upto_region 1 with (fail)
  refine wp_region_lit ?_
  refine ls_ex (some 7) (.slice A qs.length c) rfl rfl (exec_move _ rfl (.slice A qs.length c) rfl) ?_
  go_frame
  refine ls_ex (some 8) (.int .i64 qs.length) rfl rfl (exec_len _ 29 47 rfl A qs.length c rfl Try.underlying29) ?_
  go_frame
  refine ls_ex (some 9) (.bool true) rfl rfl (exec_gtr _ _ _ _ rfl qs.length 30 rfl rfl true (decide_eq_true (by omega))) ?_
  go_frame
  refine wpList_nil ?_
  go_upto_region 2 with (fail)
  refine wp_region_lit ?_
  refine ls_ex (some 6) (.bool false) rfl rfl (exec_assign _ rfl (.bool false) rfl) ?_
  go_frame
  refine wpList_nil ?_
  go_wp2_with fail
  go_ret
  exact ⟨by rw [HV.out]; rfl, hB⟩
set_option maxHeartbeats 4000000 in
theorem areProducts_b (p : Int) (R C : Nat → Int) (A : Option Addr) (c : Nat) (qs : List (List Nat)) (w : World) (hR : Rd w A qs) (hlen : qs.length ≤ 1048576) (hp : 0 < p) (hS : ShOk R C) (h30 : qs.length ≤ 30) :
    Calls Try.prog 50 #[.int .i64 p, .agg #[.int .i64 (R 0), .int .i64 (C 0), .int .i64 (R 1), .int .i64 (C 1), .int .i64 (R 2), .int .i64 (C 2)], .slice A qs.length c] w (fun e w' => e = .returned (.bool (areB p R C qs)) ∧ Below w.heap.size w w') := by
  have hB := Below.refl w.heap.size w
  have HV : Hid (areB p R C qs = qs.all (prodG p R C)) := Lib.hid (by simp [areB, h30])
  go_enter Try.func50, Try.ntmps50
  go_upto_region 0 with (fail)
  refine wp_region_lit ?_
  refine ls_op rfl (fun K' hK' => ?_)
  have lz1 := hB.size
  refine wp_new (some 3) rfl (exec_box 2 _ rfl (#[.int .i64 p]) rfl) (fun Wz2 nnz3 => ?_)
  have bz4 := nnz3.below (Below.refl _ _) (Nat.le_refl _)
  replace hB := below_after hB bz4
  have hz5 : At Wz2 w.heap.size (.cells #[.int .i64 p] 2 (0, 0)) := nnz3.at_
  refine hK' _ _ ?_
  clear hK' K' nnz3 bz4
  go_frame
  refine ls_op rfl (fun K' hK' => ?_)
  have lz6 := hB.size
  have lz7 := hz5.lt
  refine wp_new (some 4) rfl (exec_box 53 _ rfl (#[.int .i64 (R 0), .int .i64 (C 0), .int .i64 (R 1), .int .i64 (C 1), .int .i64 (R 2), .int .i64 (C 2)]) rfl) (fun Wz8 nnz9 => ?_)
  have bz10 := nnz9.below (Below.refl _ _) (Nat.le_refl _)
  replace hB := below_after hB bz10
  replace hz5 := hz5.after bz10
  have hz11 : At Wz8 Wz2.heap.size (.cells #[.int .i64 (R 0), .int .i64 (C 0), .int .i64 (R 1), .int .i64 (C 1), .int .i64 (R 2), .int .i64 (C 2)] 53 (0, 0)) := nnz9.at_
  refine hK' _ _ ?_
  clear hK' K' nnz9 bz10
  go_frame
  refine ls_ex (some 6) (.bool false) rfl rfl (exec_assign _ rfl (.bool false) rfl) ?_
  go_frame
  refine wpList_nil ?_
  go_upto_region 1 with (fail)
  refine wp_region_lit ?_
  refine ls_ex (some 7) (.slice A qs.length c) rfl rfl (exec_move _ rfl (.slice A qs.length c) rfl) ?_
  go_frame
  refine ls_ex (some 8) (.int .i64 qs.length) rfl rfl (exec_len _ 29 47 rfl A qs.length c rfl Try.underlying29) ?_
  go_frame
  refine ls_ex (some 9) (.bool false) rfl rfl (exec_gtr _ _ _ _ rfl qs.length 30 rfl rfl false (decide_eq_false (by omega))) ?_
  go_frame
  refine wpList_nil ?_
  go_upto_region 3 with (fail)
  refine wp_region_lit ?_
  refine ls_ex (some 10) (.slice A qs.length c) rfl rfl (exec_move _ rfl (.slice A qs.length c) rfl) ?_
  go_frame
  refine ls_ex (some 11) (.func (.func 70) #[] #[.pointer (some ⟨w.heap.size, 0, none⟩), .pointer (some ⟨Wz2.heap.size, 0, none⟩)]) rfl rfl (exec_mkfn2p _ _ _ rfl (.pointer (some ⟨w.heap.size, 0, none⟩)) (.pointer (some ⟨Wz2.heap.size, 0, none⟩)) rfl rfl) ?_
  go_frame
  refine ls_op rfl (fun K' hK' => ?_)
  have lz14 := hB.size
  have lz15 := hz5.lt
  have lz16 := hz11.lt
  refine wp_call2 (some 12) rfl 69 _ _ _ rfl (fun args w => by kernel_rfl) _ _ rfl rfl _ (containsProd_c p R C w.heap.size Wz2.heap.size A c qs _ (hR.keep hB) hlen hz5 hz11 hp hS) (fun e Wz12 h => ?_)
  obtain ⟨rfl, bz13⟩ := h
  replace hB := below_after hB bz13
  replace hz5 := hz5.after bz13
  replace hz11 := hz11.after bz13
  clear bz13
  refine ⟨_, rfl, ?_⟩
  refine hK' _ _ ?_
  clear hK' K'
  go_frame
  refine ls_ex (some 13) (.bool (!(!(qs.all (prodG p R C))))) rfl rfl (exec_not _ _ rfl ((!(qs.all (prodG p R C)))) rfl) ?_
  go_frame
  refine ls_ex (some 6) (.bool (!(!(qs.all (prodG p R C))))) rfl rfl (exec_assign _ rfl (.bool (!(!(qs.all (prodG p R C))))) rfl) ?_
  go_frame
  refine wpList_nil ?_
  go_wp2_with fail
  go_ret
  exact ⟨by rw [HV.out]; simp, hB⟩
theorem areProducts_c (p : Int) (R C : Nat → Int) (A : Option Addr) (c : Nat) (qs : List (List Nat)) (w : World) (hR : Rd w A qs) (hlen : qs.length ≤ 1048576) (hp : 0 < p) (hS : ShOk R C) :
    Calls Try.prog 50 #[.int .i64 p, .agg #[.int .i64 (R 0), .int .i64 (C 0), .int .i64 (R 1), .int .i64 (C 1), .int .i64 (R 2), .int .i64 (C 2)], .slice A qs.length c] w (fun e w' => e = .returned (.bool (areB p R C qs)) ∧ Below w.heap.size w w') := by
  by_cases h30 : 30 < qs.length
  · exact areProducts_a p R C A c qs w hR hlen hp hS h30
  · exact areProducts_b p R C A c qs w hR hlen hp hS (by omega)
end Go.Proofs.Ytebmkmkhfhmfbaa
