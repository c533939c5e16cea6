/-
  impl.IsProgram, spec.IsProgram. (Made by mkpg3.py.)
-/
import Derived.Test.YtokmchadckcilaaPg2
namespace Go.Proofs.Ytokmchadckcilaa
open Go.RowKit
set_option maxRecDepth 100000
attribute [local irreducible] wpList
theorem pg_mkfn2 {P : Program} {o : Oper} {a : Act} {w : World} (f : FuncId) (x y : Operand) (ho : o.op = .makeFunc (.func f) #[] #[x, y]) (u v : Value) (hx : a.eval x = u) (hy : a.eval y = v) : (execOp a.eval o).run P w = .ok (.value (.func (.func f) #[] #[u, v])) w := by
  subst hx hy
  unfold execOp
  simp only [ho]
  simp [go_sem]
theorem progB_last {p n : Int} {ss os : List (List Int)} (h1 : primeB p = true) (h2 : (decide (1 ≤ n) && decide (n ≤ 30)) = true) (h3 : ss.length ≤ 900) (h4 : 1 ≤ os.length) (h5 : os.length ≤ 30) (h6 : stepsB p n ss ss.length = true) : progB p n ss os = outsB p (n + ss.length) os os.length := by
  unfold progB
  rw [h1, h2, decide_eq_true h3, decide_eq_true h4, decide_eq_true h5, h6]
  simp
theorem al_int64 {o : Oper} {a : Act} {w : World} (ho : o.op = .alloc 2) : (execOp a.eval o).run Try.prog w = .ok (.value (.pointer (some ⟨w.heap.size, 0, none⟩))) (w.alloc (.cells #[.int .i64 0] 2 (0, 0))) := by
  unfold execOp
  rw [ho]
  kernel_rfl
set_option maxHeartbeats 4000000 in
theorem isProg1_c (p m n : Int) (vs vo : Value) (gp gv : Nat) (v f : Int) (w : World) (hgp : At w gp (.cells #[.int .i64 p, .int .i64 n, vs, vo] 36 (0, 0))) (hgv : At w gv (.cells #[.int .i64 m] 2 (0, 0))) (hp : 2 ≤ p ∧ p ≤ 5) (hm : 1 ≤ m) :
    Calls Try.prog 41 #[.agg #[.int .i64 v, .int .i64 f], .pointer (some ⟨gp, 0, none⟩), .pointer (some ⟨gv, 0, none⟩)] w (fun e w' => e = .returned (.bool (!outB p m [v, f])) ∧ Below w.heap.size w w') := by
  have hB := Below.refl w.heap.size w
  skip
  go_enter Try.func41, Try.ntmps41
  go_upto_region 0 with (fail)
  refine wp_region_lit ?_
  refine ls_op rfl (fun K' hK' => ?_)
  have lz1 := hB.size
  have lz2 := hgp.lt
  have lz3 := hgv.lt
  refine wp_new (some 3) rfl (exec_box 61 _ rfl (#[.int .i64 v, .int .i64 f]) rfl) (fun Wz4 nnz5 => ?_)
  have bz6 := nnz5.below (Below.refl _ _) (Nat.le_refl _)
  replace hB := below_after hB bz6
  replace hgp := hgp.after bz6
  replace hgv := hgv.after bz6
  have hz7 : At Wz4 w.heap.size (.cells #[.int .i64 v, .int .i64 f] 61 (0, 0)) := nnz5.at_
  refine hK' _ _ ?_
  clear hK' K' nnz5 bz6
  go_frame
  refine ls_ex (some 4) (.bool false) rfl rfl (exec_assign _ rfl (.bool false) rfl) ?_
  go_frame
  refine wpList_nil ?_
  go_upto_region 1 with (fail)
  refine wp_region_lit ?_
  refine ls_ex (some 5) (.pointer (some ⟨gp, 0, none⟩)) rfl rfl (exec_fieldAddr 36 _ 0 rfl _ (by kernel_rfl)) ?_
  go_frame
  refine ls_ex (some 6) (.int .i64 p) rfl rfl (exec_load_one 2 _ rfl gp 0 rfl (.int .i64 p) _ Try.underlying2 rfl (hgp.at_ 0)) ?_
  go_frame
  refine ls_ex (some 7) (.int .i64 m) rfl rfl (exec_load_one 2 _ rfl gv 0 rfl (.int .i64 m) _ Try.underlying2 rfl (hgv.at_ 0)) ?_
  go_frame
  refine ls_ex (some 8) (.agg #[.int .i64 v, .int .i64 f]) rfl rfl (exec_load_all 61 _ rfl w.heap.size rfl _ _ _ hz7 Try.underlying61 rfl 2 (by kernel_rfl) rfl) ?_
  go_frame
  refine ls_op rfl (fun K' hK' => ?_)
  have lz10 := hB.size
  have lz11 := hgp.lt
  have lz12 := hgv.lt
  have lz13 := hz7.lt
  refine wp_call3 (some 9) rfl 42 _ _ _ _ rfl (fun args w => by kernel_rfl) _ _ _ rfl rfl rfl _ (isOutput_c p m v f _ hp hm) (fun e Wz8 h => ?_)
  obtain ⟨rfl, bz9⟩ := h
  replace hB := below_after hB bz9
  replace hgp := hgp.after bz9
  replace hgv := hgv.after bz9
  replace hz7 := hz7.after bz9
  clear bz9
  refine ⟨_, rfl, ?_⟩
  refine hK' _ _ ?_
  clear hK' K'
  go_frame
  refine ls_ex (some 10) (.bool (!(outB p m [v, f]))) rfl rfl (exec_not _ _ rfl ((outB p m [v, f])) rfl) ?_
  go_frame
  refine ls_ex (some 4) (.bool (!(outB p m [v, f]))) rfl rfl (exec_assign _ rfl (.bool (!(outB p m [v, f]))) rfl) ?_
  go_frame
  refine wpList_nil ?_
  go_wp2_with fail
  go_ret
  exact ⟨rfl, hB⟩
/-- Where a list has an output that is none, or -1. -/
def IdxOut (p m : Int) (os : List (List Int)) (r : Int) : Prop := (r = -1 ∧ outsB p m os os.length = true) ∨ (0 ≤ r ∧ outsB p m os os.length = false)
theorem outsB_no {p m : Int} {os : List (List Int)} {k : Nat} (hk : k < os.length) (h : outB p m os[k] = false) : outsB p m os os.length = false := by
  rw [Bool.eq_false_iff]
  intro hc
  have h1 := outsB_at hc k hk
  rw [List.getElem?_eq_getElem hk, Option.getD_some, h] at h1
  cases h1
set_option maxHeartbeats 1600000 in
theorem indexOut_c (p m n : Int) (vs vo : Value) (gp gv : Nat) (A : Option Addr) (c : Nat) (os : List (List Int)) (w : World) (hr : RdK 2 w A os) (hn : os.length ≤ 1048576) (hgp : At w gp (.cells #[.int .i64 p, .int .i64 n, vs, vo] 36 (0, 0))) (hgv : At w gv (.cells #[.int .i64 m] 2 (0, 0))) (hp : 2 ≤ p ∧ p ≤ 5) (hm : 1 ≤ m) :
    Calls Try.prog 54 #[.slice A os.length c, .func (.func 41) #[] #[.pointer (some ⟨gp, 0, none⟩), .pointer (some ⟨gv, 0, none⟩)]] w fun e w' => ∃ r, e = .returned (.int .i64 r) ∧ IdxOut p m os r ∧ Below w.heap.size w w' := by
  go_enter Try.func54, Try.ntmps54
  go_wp2_with fail
  go_loopw [8] (fun v wr => ∃ a : Nat, a ≤ os.length ∧ v = .int .i64 a ∧ Hid (outsB p m os a = true) ∧ Below w.heap.size w wr) (fun v _ => os.length - (intOf v).toNat)
  case atStart => exact ⟨0, by omega, rfl, Lib.hid rfl, Below.refl _ _⟩
  case round =>
    obtain ⟨a, ha, rfl, HO, hB⟩ := hrel
    by_cases hlt : a < os.length
    · obtain ⟨b, off, rfl, hc⟩ := (hr.keep hB).at_ hlt
      clear hc
      have e0 : IntKind.i64.wrap ((a : Int) + 1) = (a : Int) + 1 := IntWalk.i64_in _ (by omega)
      have hlt' : (a : Int) < (os.length : Int) := by omega
      obtain ⟨v, f, hq⟩ := row2 (hr.good _ (List.getElem_mem hlt))
      have Hq := Lib.hid hq
      have Hc := Lib.hid (RdK.cells_2 (hr.keep hB) hlt Hq.out)
      have HC := Lib.hid (isProg1_c p m n vs vo gp gv v f wr (hgp.after hB) (hgv.after hB) hp hm)
      cases hb : outB p m [v, f] with
      | false =>
        have Hno : Hid (IdxOut p m os a) := Lib.hid (.inr ⟨by omega, outsB_no hlt (by rw [hq]; exact hb)⟩)
        rw [hb] at HC
        clear hb hq hr hgp hgv
        go_wp2_with (refine wpList_of_exec rfl (exec_load_2 61 _ rfl b (off + a * 2) rfl v f _ Hc.out Try.underlying61 rfl (by kernel_rfl)) ?_)
        refine HC.out.mono ?_
        rintro e w' ⟨rfl, b1⟩
        go_wp2_with fail
        go_ret
        exact ⟨_, rfl, Hno.out, below_after hB b1⟩
      | true =>
        have Hstep : Hid (outsB p m os (a + 1) = true) := Lib.hid (outsB_step hlt HO.out (by rw [hq]; exact hb))
        rw [hb] at HC
        clear hb hq hr hgp hgv
        go_wp2_with (refine wpList_of_exec rfl (exec_load_2 61 _ rfl b (off + a * 2) rfl v f _ Hc.out Try.underlying61 rfl (by kernel_rfl)) ?_)
        refine HC.out.mono ?_
        rintro e w' ⟨rfl, b1⟩
        go_wp2_with fail
        exact ⟨⟨a + 1, by omega, by go_num, Hstep, below_after hB b1⟩, by simp [intOf]; omega⟩
    · have Hyes : Hid (IdxOut p m os (-1)) := Lib.hid (.inl ⟨rfl, by rw [← show a = os.length by omega]; exact HO.out⟩)
      have hlt' : ¬ (a : Int) < (os.length : Int) := by omega
      clear hr hgp hgv
      go_wp2_with fail
      go_ret
      exact ⟨_, rfl, Hyes.out, hB⟩
theorem containsOut_c (p m n : Int) (vs vo : Value) (gp gv : Nat) (A : Option Addr) (c : Nat) (os : List (List Int)) (w : World) (hr : RdK 2 w A os) (hn : os.length ≤ 1048576) (hgp : At w gp (.cells #[.int .i64 p, .int .i64 n, vs, vo] 36 (0, 0))) (hgv : At w gv (.cells #[.int .i64 m] 2 (0, 0))) (hp : 2 ≤ p ∧ p ≤ 5) (hm : 1 ≤ m) :
    Calls Try.prog 40 #[.slice A os.length c, .func (.func 41) #[] #[.pointer (some ⟨gp, 0, none⟩), .pointer (some ⟨gv, 0, none⟩)]] w fun e w' => e = .returned (.bool (!(outsB p m os os.length))) ∧ Below w.heap.size w w' := by
  have HC := Lib.hid (indexOut_c p m n vs vo gp gv A c os w hr hn hgp hgv hp hm)
  clear hr hgp hgv
  go_enter Try.func40, Try.ntmps40
  go_wp2_with fail
  refine HC.out.mono ?_
  rintro e w' ⟨r, rfl, hr, b1⟩
  rcases hr with ⟨rfl, hb⟩ | ⟨h0, hb⟩
  · have Hb := Lib.hid hb
    clear hb
    go_wp2_with fail
    go_ret
    exact ⟨by rw [Hb.out]; rfl, b1⟩
  · have Hb := Lib.hid hb
    have hd : decide (0 ≤ r) = true := by simp only [decide_eq_true_eq]; exact h0
    clear hb h0
    go_wp2_with fail
    go_ret
    exact ⟨by rw [Hb.out]; rfl, b1⟩
theorem isInputCount_c (n : Int) (w : World) : Calls Try.prog 38 #[.int .i64 n] w fun e w' => e = .returned (.bool (decide (1 ≤ n) && decide (n ≤ 30))) ∧ w = w' := by
  go_enter Try.func38, Try.ntmps38
  go_wp2_with fail
  refine (isBetween_c 1 n 30 _).mono ?_
  rintro e w1 ⟨rfl, rfl⟩
  go_wp2_with fail
  go_ret
  exact ⟨rfl, rfl⟩
set_option maxHeartbeats 12800000 in
theorem implIsProgram_a (p n : Int) (As Ao : Option Addr) (cs co : Nat) (ss os : List (List Int)) (w : World) (hs : RdK 3 w As ss) (ho : RdK 2 w Ao os) (hns : ss.length ≤ 1048576) (hno : os.length ≤ 1048576) (hp : primeB p = false) :
    Calls Try.prog 15 #[.agg #[.int .i64 p, .int .i64 n, .slice As ss.length cs, .slice Ao os.length co]] w (fun e w' => e = .returned (.bool (progB p n ss os)) ∧ Below w.heap.size w w') := by
  have hB := Below.refl w.heap.size w
  have _u0 := hs
  have _u1 := ho
  have _u2 := hns
  have _u3 := hno
  clear _u0 _u1 _u2 _u3
  have HNo : Hid (progB p n ss os = false) := Lib.hid (by simp [progB, hp])
  have HP := Lib.hid hp
  clear hp
  go_enter Try.func15, Try.ntmps15
  go_upto_region 0 with (fail)
  refine wp_region_lit ?_
  refine ls_op rfl (fun K' hK' => ?_)
  have lz1 := hB.size
  refine wp_new (some 1) rfl (exec_box 36 _ rfl (#[.int .i64 p, .int .i64 n, .slice As ss.length cs, .slice Ao os.length co]) rfl) (fun Wz2 nnz3 => ?_)
  have bz4 := nnz3.below (Below.refl _ _) (Nat.le_refl _)
  replace hB := below_after hB bz4
  have hz5 : At Wz2 w.heap.size (.cells #[.int .i64 p, .int .i64 n, .slice As ss.length cs, .slice Ao os.length co] 36 (0, 0)) := nnz3.at_
  refine hK' _ _ ?_
  clear hK' K' nnz3 bz4
  go_frame
  refine ls_ex (some 2) (.bool false) rfl rfl (exec_assign _ rfl (.bool false) rfl) ?_
  go_frame
  refine wpList_nil ?_
  go_upto_region 1 with (fail)
  refine wp_region_lit ?_
  refine ls_ex (some 6) (.pointer (some ⟨w.heap.size, 0, none⟩)) rfl rfl (exec_fieldAddr 36 _ 0 rfl _ (by kernel_rfl)) ?_
  go_frame
  refine ls_ex (some 7) (.int .i64 p) rfl rfl (exec_load_one 2 _ rfl w.heap.size 0 rfl (.int .i64 p) _ Try.underlying2 rfl (hz5.at_ 0)) ?_
  go_frame
  refine ls_op rfl (fun K' hK' => ?_)
  have lz8 := hB.size
  have lz9 := hz5.lt
  refine wp_call1 (some 8) rfl 30 _ _ rfl (fun args w => by kernel_rfl) _ rfl _ (isPrime_c p _) (fun e Wz6 h => ?_)
  obtain ⟨rfl, rfl⟩ := h
  rw [HP.out]
  refine ⟨_, rfl, ?_⟩
  refine hK' _ _ ?_
  clear hK' K'
  go_frame
  refine ls_ex (some 9) (.bool true) rfl rfl (exec_not _ _ rfl false rfl) ?_
  go_frame
  refine ls_ex (some 10) (.bool true) rfl rfl (exec_move _ rfl (.bool true) rfl) ?_
  go_frame
  refine ls_skip_g (some 11) rfl rfl ?_
  go_frame
  refine ls_skip_g (some 12) rfl rfl ?_
  go_frame
  refine ls_skip_g (some 13) rfl rfl ?_
  go_frame
  refine ls_skip_g (some 14) rfl rfl ?_
  go_frame
  refine ls_ex (some 15) (.bool true) rfl rfl (exec_pick _ _ _ rfl true rfl (.bool true) rfl) ?_
  go_frame
  refine ls_ex (some 16) (.bool true) rfl rfl (exec_move _ rfl (.bool true) rfl) ?_
  go_frame
  refine ls_skip_g (some 17) rfl rfl ?_
  go_frame
  refine ls_skip_g (some 18) rfl rfl ?_
  go_frame
  refine ls_skip_g (some 19) rfl rfl ?_
  go_frame
  refine ls_skip_g (some 20) rfl rfl ?_
  go_frame
  refine ls_skip_g (some 21) rfl rfl ?_
  go_frame
  refine ls_ex (some 22) (.bool true) rfl rfl (exec_pick _ _ _ rfl true rfl (.bool true) rfl) ?_
  go_frame
  refine wpList_nil ?_
  go_upto_region 2 with (fail)
  refine wp_region_lit ?_
  refine ls_ex (some 2) (.bool false) rfl rfl (exec_assign _ rfl (.bool false) rfl) ?_
  go_frame
  refine wpList_nil ?_
  go_wp2_with fail
  go_ret
  exact ⟨by rw [HNo.out]; rfl, hB⟩
set_option maxHeartbeats 12800000 in
theorem implIsProgram_b (p n : Int) (As Ao : Option Addr) (cs co : Nat) (ss os : List (List Int)) (w : World) (hs : RdK 3 w As ss) (ho : RdK 2 w Ao os) (hns : ss.length ≤ 1048576) (hno : os.length ≤ 1048576) (hp : primeB p = true) (hn : (decide (1 ≤ n) && decide (n ≤ 30)) = false) :
    Calls Try.prog 15 #[.agg #[.int .i64 p, .int .i64 n, .slice As ss.length cs, .slice Ao os.length co]] w (fun e w' => e = .returned (.bool (progB p n ss os)) ∧ Below w.heap.size w w') := by
  have hB := Below.refl w.heap.size w
  have _u0 := hs
  have _u1 := ho
  have _u2 := hns
  have _u3 := hno
  clear _u0 _u1 _u2 _u3
  have HNo : Hid (progB p n ss os = false) := Lib.hid (by simp only [progB, hn]; simp)
  have HP := Lib.hid hp
  have HN := Lib.hid hn
  clear hp hn
  go_enter Try.func15, Try.ntmps15
  go_upto_region 0 with (fail)
  refine wp_region_lit ?_
  refine ls_op rfl (fun K' hK' => ?_)
  have lz1 := hB.size
  refine wp_new (some 1) rfl (exec_box 36 _ rfl (#[.int .i64 p, .int .i64 n, .slice As ss.length cs, .slice Ao os.length co]) rfl) (fun Wz2 nnz3 => ?_)
  have bz4 := nnz3.below (Below.refl _ _) (Nat.le_refl _)
  replace hB := below_after hB bz4
  have hz5 : At Wz2 w.heap.size (.cells #[.int .i64 p, .int .i64 n, .slice As ss.length cs, .slice Ao os.length co] 36 (0, 0)) := nnz3.at_
  refine hK' _ _ ?_
  clear hK' K' nnz3 bz4
  go_frame
  refine ls_ex (some 2) (.bool false) rfl rfl (exec_assign _ rfl (.bool false) rfl) ?_
  go_frame
  refine wpList_nil ?_
  go_upto_region 1 with (fail)
  refine wp_region_lit ?_
  refine ls_ex (some 6) (.pointer (some ⟨w.heap.size, 0, none⟩)) rfl rfl (exec_fieldAddr 36 _ 0 rfl _ (by kernel_rfl)) ?_
  go_frame
  refine ls_ex (some 7) (.int .i64 p) rfl rfl (exec_load_one 2 _ rfl w.heap.size 0 rfl (.int .i64 p) _ Try.underlying2 rfl (hz5.at_ 0)) ?_
  go_frame
  refine ls_op rfl (fun K' hK' => ?_)
  have lz8 := hB.size
  have lz9 := hz5.lt
  refine wp_call1 (some 8) rfl 30 _ _ rfl (fun args w => by kernel_rfl) _ rfl _ (isPrime_c p _) (fun e Wz6 h => ?_)
  obtain ⟨rfl, rfl⟩ := h
  rw [HP.out]
  refine ⟨_, rfl, ?_⟩
  refine hK' _ _ ?_
  clear hK' K'
  go_frame
  refine ls_ex (some 9) (.bool false) rfl rfl (exec_not _ _ rfl true rfl) ?_
  go_frame
  refine ls_ex (some 10) (.bool false) rfl rfl (exec_move _ rfl (.bool false) rfl) ?_
  go_frame
  refine ls_ex_g (some 11) (.pointer (some ⟨w.heap.size, 1, none⟩)) rfl rfl (exec_fieldAddr 36 _ 1 rfl _ (by kernel_rfl)) ?_
  go_frame
  refine ls_ex_g (some 12) (.int .i64 n) rfl rfl (exec_load_one 2 _ rfl w.heap.size 1 rfl (.int .i64 n) _ Try.underlying2 rfl (hz5.at_ 1)) ?_
  go_frame
  refine ls_op_g rfl (fun K' hK' => ?_)
  have lz12 := hB.size
  have lz13 := hz5.lt
  refine wp_call1 (some 13) rfl 38 _ _ rfl (fun args w => by kernel_rfl) _ rfl _ (isInputCount_c n _) (fun e Wz10 h => ?_)
  obtain ⟨rfl, rfl⟩ := h
  rw [HN.out]
  refine ⟨_, rfl, ?_⟩
  refine hK' _ _ ?_
  clear hK' K'
  go_frame
  refine ls_ex_g (some 14) (.bool true) rfl rfl (exec_not _ _ rfl false rfl) ?_
  go_frame
  refine ls_ex (some 15) (.bool true) rfl rfl (exec_pick _ _ _ rfl false rfl (.bool true) rfl) ?_
  go_frame
  refine ls_ex (some 16) (.bool true) rfl rfl (exec_move _ rfl (.bool true) rfl) ?_
  go_frame
  refine ls_skip_g (some 17) rfl rfl ?_
  go_frame
  refine ls_skip_g (some 18) rfl rfl ?_
  go_frame
  refine ls_skip_g (some 19) rfl rfl ?_
  go_frame
  refine ls_skip_g (some 20) rfl rfl ?_
  go_frame
  refine ls_skip_g (some 21) rfl rfl ?_
  go_frame
  refine ls_ex (some 22) (.bool true) rfl rfl (exec_pick _ _ _ rfl true rfl (.bool true) rfl) ?_
  go_frame
  refine wpList_nil ?_
  go_upto_region 2 with (fail)
  refine wp_region_lit ?_
  refine ls_ex (some 2) (.bool false) rfl rfl (exec_assign _ rfl (.bool false) rfl) ?_
  go_frame
  refine wpList_nil ?_
  go_wp2_with fail
  go_ret
  exact ⟨by rw [HNo.out]; rfl, hB⟩
set_option maxHeartbeats 12800000 in
theorem implIsProgram_d (p n : Int) (As Ao : Option Addr) (cs co : Nat) (ss os : List (List Int)) (w : World) (hs : RdK 3 w As ss) (ho : RdK 2 w Ao os) (hns : ss.length ≤ 1048576) (hno : os.length ≤ 1048576) (hp : primeB p = true) (hn : (decide (1 ≤ n) && decide (n ≤ 30)) = true) (ho1 : ¬ (1 ≤ os.length ∧ os.length ≤ 30)) :
    Calls Try.prog 15 #[.agg #[.int .i64 p, .int .i64 n, .slice As ss.length cs, .slice Ao os.length co]] w (fun e w' => e = .returned (.bool (progB p n ss os)) ∧ Below w.heap.size w w') := by
  have hB := Below.refl w.heap.size w
  have _u0 := hs
  have _u1 := ho
  have _u2 := hns
  have _u3 := hno
  clear _u0 _u1 _u2 _u3
  have HNo : Hid (progB p n ss os = false) := Lib.hid (by unfold progB; rw [show (decide (1 ≤ os.length) && decide (os.length ≤ 30)) = false by rw [Bool.eq_false_iff]; simp only [ne_eq, Bool.and_eq_true, decide_eq_true_eq]; exact ho1]; simp)
  have HO : Hid ((decide (1 ≤ (os.length : Int)) && decide ((os.length : Int) ≤ 30)) = false) := Lib.hid (by rw [Bool.eq_false_iff]; simp only [ne_eq, Bool.and_eq_true, decide_eq_true_eq]; omega)
  have HP := Lib.hid hp
  have HN := Lib.hid hn
  clear hp hn
  go_enter Try.func15, Try.ntmps15
  go_upto_region 0 with (fail)
  refine wp_region_lit ?_
  refine ls_op rfl (fun K' hK' => ?_)
  have lz1 := hB.size
  refine wp_new (some 1) rfl (exec_box 36 _ rfl (#[.int .i64 p, .int .i64 n, .slice As ss.length cs, .slice Ao os.length co]) rfl) (fun Wz2 nnz3 => ?_)
  have bz4 := nnz3.below (Below.refl _ _) (Nat.le_refl _)
  replace hB := below_after hB bz4
  have hz5 : At Wz2 w.heap.size (.cells #[.int .i64 p, .int .i64 n, .slice As ss.length cs, .slice Ao os.length co] 36 (0, 0)) := nnz3.at_
  refine hK' _ _ ?_
  clear hK' K' nnz3 bz4
  go_frame
  refine ls_ex (some 2) (.bool false) rfl rfl (exec_assign _ rfl (.bool false) rfl) ?_
  go_frame
  refine wpList_nil ?_
  go_upto_region 1 with (fail)
  refine wp_region_lit ?_
  refine ls_ex (some 6) (.pointer (some ⟨w.heap.size, 0, none⟩)) rfl rfl (exec_fieldAddr 36 _ 0 rfl _ (by kernel_rfl)) ?_
  go_frame
  refine ls_ex (some 7) (.int .i64 p) rfl rfl (exec_load_one 2 _ rfl w.heap.size 0 rfl (.int .i64 p) _ Try.underlying2 rfl (hz5.at_ 0)) ?_
  go_frame
  refine ls_op rfl (fun K' hK' => ?_)
  have lz8 := hB.size
  have lz9 := hz5.lt
  refine wp_call1 (some 8) rfl 30 _ _ rfl (fun args w => by kernel_rfl) _ rfl _ (isPrime_c p _) (fun e Wz6 h => ?_)
  obtain ⟨rfl, rfl⟩ := h
  rw [HP.out]
  refine ⟨_, rfl, ?_⟩
  refine hK' _ _ ?_
  clear hK' K'
  go_frame
  refine ls_ex (some 9) (.bool false) rfl rfl (exec_not _ _ rfl true rfl) ?_
  go_frame
  refine ls_ex (some 10) (.bool false) rfl rfl (exec_move _ rfl (.bool false) rfl) ?_
  go_frame
  refine ls_ex_g (some 11) (.pointer (some ⟨w.heap.size, 1, none⟩)) rfl rfl (exec_fieldAddr 36 _ 1 rfl _ (by kernel_rfl)) ?_
  go_frame
  refine ls_ex_g (some 12) (.int .i64 n) rfl rfl (exec_load_one 2 _ rfl w.heap.size 1 rfl (.int .i64 n) _ Try.underlying2 rfl (hz5.at_ 1)) ?_
  go_frame
  refine ls_op_g rfl (fun K' hK' => ?_)
  have lz12 := hB.size
  have lz13 := hz5.lt
  refine wp_call1 (some 13) rfl 38 _ _ rfl (fun args w => by kernel_rfl) _ rfl _ (isInputCount_c n _) (fun e Wz10 h => ?_)
  obtain ⟨rfl, rfl⟩ := h
  rw [HN.out]
  refine ⟨_, rfl, ?_⟩
  refine hK' _ _ ?_
  clear hK' K'
  go_frame
  refine ls_ex_g (some 14) (.bool false) rfl rfl (exec_not _ _ rfl true rfl) ?_
  go_frame
  refine ls_ex (some 15) (.bool false) rfl rfl (exec_pick _ _ _ rfl false rfl (.bool false) rfl) ?_
  go_frame
  refine ls_ex (some 16) (.bool false) rfl rfl (exec_move _ rfl (.bool false) rfl) ?_
  go_frame
  refine ls_ex_g (some 17) (.pointer (some ⟨w.heap.size, 3, none⟩)) rfl rfl (exec_fieldAddr 36 _ 3 rfl _ (by kernel_rfl)) ?_
  go_frame
  refine ls_ex_g (some 18) (.slice Ao os.length co) rfl rfl (exec_load_one 34 _ rfl w.heap.size 3 rfl (.slice Ao os.length co) _ Try.underlying34 rfl (hz5.at_ 3)) ?_
  go_frame
  refine ls_ex_g (some 19) (.int .i64 os.length) rfl rfl (exec_len _ 34 61 rfl Ao os.length co rfl Try.underlying34) ?_
  go_frame
  refine ls_op_g rfl (fun K' hK' => ?_)
  have lz16 := hB.size
  have lz17 := hz5.lt
  refine wp_call1 (some 20) rfl 38 _ _ rfl (fun args w => by kernel_rfl) _ rfl _ (isInputCount_c (os.length : Int) _) (fun e Wz14 h => ?_)
  obtain ⟨rfl, rfl⟩ := h
  rw [HO.out]
  refine ⟨_, rfl, ?_⟩
  refine hK' _ _ ?_
  clear hK' K'
  go_frame
  refine ls_ex_g (some 21) (.bool true) rfl rfl (exec_not _ _ rfl false rfl) ?_
  go_frame
  refine ls_ex (some 22) (.bool true) rfl rfl (exec_pick _ _ _ rfl false rfl (.bool true) rfl) ?_
  go_frame
  refine wpList_nil ?_
  go_upto_region 2 with (fail)
  refine wp_region_lit ?_
  refine ls_ex (some 2) (.bool false) rfl rfl (exec_assign _ rfl (.bool false) rfl) ?_
  go_frame
  refine wpList_nil ?_
  go_wp2_with fail
  go_ret
  exact ⟨by rw [HNo.out]; rfl, hB⟩
set_option maxHeartbeats 12800000 in
theorem implIsProgram_c_ (p n : Int) (As Ao : Option Addr) (cs co : Nat) (ss os : List (List Int)) (w : World) (hs : RdK 3 w As ss) (ho : RdK 2 w Ao os) (hns : ss.length ≤ 1048576) (hno : os.length ≤ 1048576) (hp : primeB p = true) (hn : (decide (1 ≤ n) && decide (n ≤ 30)) = true) (ho1 : 1 ≤ os.length ∧ os.length ≤ 30) (hl : 900 < ss.length) :
    Calls Try.prog 15 #[.agg #[.int .i64 p, .int .i64 n, .slice As ss.length cs, .slice Ao os.length co]] w (fun e w' => e = .returned (.bool (progB p n ss os)) ∧ Below w.heap.size w w') := by
  have hB := Below.refl w.heap.size w
  have _u0 := hs
  have _u1 := ho
  have _u2 := hns
  have _u3 := hno
  clear _u0 _u1 _u2 _u3
  have HNo : Hid (progB p n ss os = false) := Lib.hid (by unfold progB; rw [decide_eq_false (show ¬ ss.length ≤ 900 by omega)]; simp)
  have HO : Hid ((decide (1 ≤ (os.length : Int)) && decide ((os.length : Int) ≤ 30)) = true) := Lib.hid (by rw [decide_eq_true (show (1 : Int) ≤ os.length by omega), decide_eq_true (show (os.length : Int) ≤ 30 by omega)]; rfl)
  have HP := Lib.hid hp
  have HN := Lib.hid hn
  clear hp hn
  go_enter Try.func15, Try.ntmps15
  go_upto_region 0 with (fail)
  refine wp_region_lit ?_
  refine ls_op rfl (fun K' hK' => ?_)
  have lz1 := hB.size
  refine wp_new (some 1) rfl (exec_box 36 _ rfl (#[.int .i64 p, .int .i64 n, .slice As ss.length cs, .slice Ao os.length co]) rfl) (fun Wz2 nnz3 => ?_)
  have bz4 := nnz3.below (Below.refl _ _) (Nat.le_refl _)
  replace hB := below_after hB bz4
  have hz5 : At Wz2 w.heap.size (.cells #[.int .i64 p, .int .i64 n, .slice As ss.length cs, .slice Ao os.length co] 36 (0, 0)) := nnz3.at_
  refine hK' _ _ ?_
  clear hK' K' nnz3 bz4
  go_frame
  refine ls_ex (some 2) (.bool false) rfl rfl (exec_assign _ rfl (.bool false) rfl) ?_
  go_frame
  refine wpList_nil ?_
  go_upto_region 1 with (fail)
  refine wp_region_lit ?_
  refine ls_ex (some 6) (.pointer (some ⟨w.heap.size, 0, none⟩)) rfl rfl (exec_fieldAddr 36 _ 0 rfl _ (by kernel_rfl)) ?_
  go_frame
  refine ls_ex (some 7) (.int .i64 p) rfl rfl (exec_load_one 2 _ rfl w.heap.size 0 rfl (.int .i64 p) _ Try.underlying2 rfl (hz5.at_ 0)) ?_
  go_frame
  refine ls_op rfl (fun K' hK' => ?_)
  have lz8 := hB.size
  have lz9 := hz5.lt
  refine wp_call1 (some 8) rfl 30 _ _ rfl (fun args w => by kernel_rfl) _ rfl _ (isPrime_c p _) (fun e Wz6 h => ?_)
  obtain ⟨rfl, rfl⟩ := h
  rw [HP.out]
  refine ⟨_, rfl, ?_⟩
  refine hK' _ _ ?_
  clear hK' K'
  go_frame
  refine ls_ex (some 9) (.bool false) rfl rfl (exec_not _ _ rfl true rfl) ?_
  go_frame
  refine ls_ex (some 10) (.bool false) rfl rfl (exec_move _ rfl (.bool false) rfl) ?_
  go_frame
  refine ls_ex_g (some 11) (.pointer (some ⟨w.heap.size, 1, none⟩)) rfl rfl (exec_fieldAddr 36 _ 1 rfl _ (by kernel_rfl)) ?_
  go_frame
  refine ls_ex_g (some 12) (.int .i64 n) rfl rfl (exec_load_one 2 _ rfl w.heap.size 1 rfl (.int .i64 n) _ Try.underlying2 rfl (hz5.at_ 1)) ?_
  go_frame
  refine ls_op_g rfl (fun K' hK' => ?_)
  have lz12 := hB.size
  have lz13 := hz5.lt
  refine wp_call1 (some 13) rfl 38 _ _ rfl (fun args w => by kernel_rfl) _ rfl _ (isInputCount_c n _) (fun e Wz10 h => ?_)
  obtain ⟨rfl, rfl⟩ := h
  rw [HN.out]
  refine ⟨_, rfl, ?_⟩
  refine hK' _ _ ?_
  clear hK' K'
  go_frame
  refine ls_ex_g (some 14) (.bool false) rfl rfl (exec_not _ _ rfl true rfl) ?_
  go_frame
  refine ls_ex (some 15) (.bool false) rfl rfl (exec_pick _ _ _ rfl false rfl (.bool false) rfl) ?_
  go_frame
  refine ls_ex (some 16) (.bool false) rfl rfl (exec_move _ rfl (.bool false) rfl) ?_
  go_frame
  refine ls_ex_g (some 17) (.pointer (some ⟨w.heap.size, 3, none⟩)) rfl rfl (exec_fieldAddr 36 _ 3 rfl _ (by kernel_rfl)) ?_
  go_frame
  refine ls_ex_g (some 18) (.slice Ao os.length co) rfl rfl (exec_load_one 34 _ rfl w.heap.size 3 rfl (.slice Ao os.length co) _ Try.underlying34 rfl (hz5.at_ 3)) ?_
  go_frame
  refine ls_ex_g (some 19) (.int .i64 os.length) rfl rfl (exec_len _ 34 61 rfl Ao os.length co rfl Try.underlying34) ?_
  go_frame
  refine ls_op_g rfl (fun K' hK' => ?_)
  have lz16 := hB.size
  have lz17 := hz5.lt
  refine wp_call1 (some 20) rfl 38 _ _ rfl (fun args w => by kernel_rfl) _ rfl _ (isInputCount_c (os.length : Int) _) (fun e Wz14 h => ?_)
  obtain ⟨rfl, rfl⟩ := h
  rw [HO.out]
  refine ⟨_, rfl, ?_⟩
  refine hK' _ _ ?_
  clear hK' K'
  go_frame
  refine ls_ex_g (some 21) (.bool false) rfl rfl (exec_not _ _ rfl true rfl) ?_
  go_frame
  refine ls_ex (some 22) (.bool false) rfl rfl (exec_pick _ _ _ rfl false rfl (.bool false) rfl) ?_
  go_frame
  refine wpList_nil ?_
  go_upto_region 3 with (fail)
  refine wp_region_lit ?_
  refine ls_ex (some 23) (.pointer (some ⟨w.heap.size, 2, none⟩)) rfl rfl (exec_fieldAddr 36 _ 2 rfl _ (by kernel_rfl)) ?_
  go_frame
  refine ls_ex (some 24) (.slice As ss.length cs) rfl rfl (exec_load_one 33 _ rfl w.heap.size 2 rfl (.slice As ss.length cs) _ Try.underlying33 rfl (hz5.at_ 2)) ?_
  go_frame
  refine ls_ex (some 25) (.int .i64 ss.length) rfl rfl (exec_len _ 33 57 rfl As ss.length cs rfl Try.underlying33) ?_
  go_frame
  refine ls_ex (some 26) (.bool true) rfl rfl (exec_gtr _ _ _ _ rfl ss.length 900 rfl rfl true (decide_eq_true (by omega))) ?_
  go_frame
  refine wpList_nil ?_
  go_upto_region 4 with (fail)
  refine wp_region_lit ?_
  refine ls_ex (some 2) (.bool false) rfl rfl (exec_assign _ rfl (.bool false) rfl) ?_
  go_frame
  refine wpList_nil ?_
  go_wp2_with fail
  go_ret
  exact ⟨by rw [HNo.out]; rfl, hB⟩
set_option maxHeartbeats 12800000 in
theorem implIsProgram_f (p n : Int) (As Ao : Option Addr) (cs co : Nat) (ss os : List (List Int)) (w : World) (hs : RdK 3 w As ss) (ho : RdK 2 w Ao os) (hns : ss.length ≤ 1048576) (hno : os.length ≤ 1048576) (hp : primeB p = true) (hn : (decide (1 ≤ n) && decide (n ≤ 30)) = true) (ho1 : 1 ≤ os.length ∧ os.length ≤ 30) (hl : ss.length ≤ 900) :
    Calls Try.prog 15 #[.agg #[.int .i64 p, .int .i64 n, .slice As ss.length cs, .slice Ao os.length co]] w (fun e w' => e = .returned (.bool (progB p n ss os)) ∧ Below w.heap.size w w') := by
  have hB := Below.refl w.heap.size w
  have hp5 := primeB_bounds hp
  have hn9 : 1 ≤ n ∧ n ≤ 30 := by simp only [Bool.and_eq_true, decide_eq_true_eq] at hn; exact hn
  have HO : Hid ((decide (1 ≤ (os.length : Int)) && decide ((os.length : Int) ≤ 30)) = true) := Lib.hid (by rw [decide_eq_true (show (1 : Int) ≤ os.length by omega), decide_eq_true (show (os.length : Int) ≤ 30 by omega)]; rfl)
  have HP := Lib.hid hp
  have HN := Lib.hid hn
  clear hp hn
  go_enter Try.func15, Try.ntmps15
  go_upto_region 0 with (fail)
  refine wp_region_lit ?_
  refine ls_op rfl (fun K' hK' => ?_)
  have lz1 := hB.size
  refine wp_new (some 1) rfl (exec_box 36 _ rfl (#[.int .i64 p, .int .i64 n, .slice As ss.length cs, .slice Ao os.length co]) rfl) (fun Wz2 nnz3 => ?_)
  have bz4 := nnz3.below (Below.refl _ _) (Nat.le_refl _)
  replace hB := below_after hB bz4
  have hz5 : At Wz2 w.heap.size (.cells #[.int .i64 p, .int .i64 n, .slice As ss.length cs, .slice Ao os.length co] 36 (0, 0)) := nnz3.at_
  refine hK' _ _ ?_
  clear hK' K' nnz3 bz4
  go_frame
  refine ls_ex (some 2) (.bool false) rfl rfl (exec_assign _ rfl (.bool false) rfl) ?_
  go_frame
  refine wpList_nil ?_
  go_upto_region 1 with (fail)
  refine wp_region_lit ?_
  refine ls_ex (some 6) (.pointer (some ⟨w.heap.size, 0, none⟩)) rfl rfl (exec_fieldAddr 36 _ 0 rfl _ (by kernel_rfl)) ?_
  go_frame
  refine ls_ex (some 7) (.int .i64 p) rfl rfl (exec_load_one 2 _ rfl w.heap.size 0 rfl (.int .i64 p) _ Try.underlying2 rfl (hz5.at_ 0)) ?_
  go_frame
  refine ls_op rfl (fun K' hK' => ?_)
  have lz8 := hB.size
  have lz9 := hz5.lt
  refine wp_call1 (some 8) rfl 30 _ _ rfl (fun args w => by kernel_rfl) _ rfl _ (isPrime_c p _) (fun e Wz6 h => ?_)
  obtain ⟨rfl, rfl⟩ := h
  rw [HP.out]
  refine ⟨_, rfl, ?_⟩
  refine hK' _ _ ?_
  clear hK' K'
  go_frame
  refine ls_ex (some 9) (.bool false) rfl rfl (exec_not _ _ rfl true rfl) ?_
  go_frame
  refine ls_ex (some 10) (.bool false) rfl rfl (exec_move _ rfl (.bool false) rfl) ?_
  go_frame
  refine ls_ex_g (some 11) (.pointer (some ⟨w.heap.size, 1, none⟩)) rfl rfl (exec_fieldAddr 36 _ 1 rfl _ (by kernel_rfl)) ?_
  go_frame
  refine ls_ex_g (some 12) (.int .i64 n) rfl rfl (exec_load_one 2 _ rfl w.heap.size 1 rfl (.int .i64 n) _ Try.underlying2 rfl (hz5.at_ 1)) ?_
  go_frame
  refine ls_op_g rfl (fun K' hK' => ?_)
  have lz12 := hB.size
  have lz13 := hz5.lt
  refine wp_call1 (some 13) rfl 38 _ _ rfl (fun args w => by kernel_rfl) _ rfl _ (isInputCount_c n _) (fun e Wz10 h => ?_)
  obtain ⟨rfl, rfl⟩ := h
  rw [HN.out]
  refine ⟨_, rfl, ?_⟩
  refine hK' _ _ ?_
  clear hK' K'
  go_frame
  refine ls_ex_g (some 14) (.bool false) rfl rfl (exec_not _ _ rfl true rfl) ?_
  go_frame
  refine ls_ex (some 15) (.bool false) rfl rfl (exec_pick _ _ _ rfl false rfl (.bool false) rfl) ?_
  go_frame
  refine ls_ex (some 16) (.bool false) rfl rfl (exec_move _ rfl (.bool false) rfl) ?_
  go_frame
  refine ls_ex_g (some 17) (.pointer (some ⟨w.heap.size, 3, none⟩)) rfl rfl (exec_fieldAddr 36 _ 3 rfl _ (by kernel_rfl)) ?_
  go_frame
  refine ls_ex_g (some 18) (.slice Ao os.length co) rfl rfl (exec_load_one 34 _ rfl w.heap.size 3 rfl (.slice Ao os.length co) _ Try.underlying34 rfl (hz5.at_ 3)) ?_
  go_frame
  refine ls_ex_g (some 19) (.int .i64 os.length) rfl rfl (exec_len _ 34 61 rfl Ao os.length co rfl Try.underlying34) ?_
  go_frame
  refine ls_op_g rfl (fun K' hK' => ?_)
  have lz16 := hB.size
  have lz17 := hz5.lt
  refine wp_call1 (some 20) rfl 38 _ _ rfl (fun args w => by kernel_rfl) _ rfl _ (isInputCount_c (os.length : Int) _) (fun e Wz14 h => ?_)
  obtain ⟨rfl, rfl⟩ := h
  rw [HO.out]
  refine ⟨_, rfl, ?_⟩
  refine hK' _ _ ?_
  clear hK' K'
  go_frame
  refine ls_ex_g (some 21) (.bool false) rfl rfl (exec_not _ _ rfl true rfl) ?_
  go_frame
  refine ls_ex (some 22) (.bool false) rfl rfl (exec_pick _ _ _ rfl false rfl (.bool false) rfl) ?_
  go_frame
  refine wpList_nil ?_
  go_upto_region 3 with (fail)
  refine wp_region_lit ?_
  refine ls_ex (some 23) (.pointer (some ⟨w.heap.size, 2, none⟩)) rfl rfl (exec_fieldAddr 36 _ 2 rfl _ (by kernel_rfl)) ?_
  go_frame
  refine ls_ex (some 24) (.slice As ss.length cs) rfl rfl (exec_load_one 33 _ rfl w.heap.size 2 rfl (.slice As ss.length cs) _ Try.underlying33 rfl (hz5.at_ 2)) ?_
  go_frame
  refine ls_ex (some 25) (.int .i64 ss.length) rfl rfl (exec_len _ 33 57 rfl As ss.length cs rfl Try.underlying33) ?_
  go_frame
  refine ls_ex (some 26) (.bool false) rfl rfl (exec_gtr _ _ _ _ rfl ss.length 900 rfl rfl false (decide_eq_false (by omega))) ?_
  go_frame
  refine wpList_nil ?_
  go_upto_region 5 with (fail)
  refine wp_region_lit ?_
  refine ls_ex (some 27) (.pointer (some ⟨w.heap.size, 1, none⟩)) rfl rfl (exec_fieldAddr 36 _ 1 rfl _ (by kernel_rfl)) ?_
  go_frame
  refine ls_ex (some 28) (.int .i64 n) rfl rfl (exec_load_one 2 _ rfl w.heap.size 1 rfl (.int .i64 n) _ Try.underlying2 rfl (hz5.at_ 1)) ?_
  go_frame
  refine ls_op rfl (fun K' hK' => ?_)
  have lz18 := hB.size
  have lz19 := hz5.lt
  refine wp_new (some 3) rfl (al_int64 rfl) (fun Wz20 nnz21 => ?_)
  have bz22 := nnz21.below (Below.refl _ _) (Nat.le_refl _)
  replace hB := below_after hB bz22
  replace hz5 := hz5.after bz22
  have hz23 : At Wz20 Wz2.heap.size (.cells #[.int .i64 0] 2 (0, 0)) := nnz21.at_
  refine hK' _ _ ?_
  clear hK' K' nnz21 bz22
  go_frame
  refine ls_op rfl (fun K' hK' => ?_)
  refine wp_store_one 2 _ _ rfl rfl Wz2.heap.size 0 rfl (.int .i64 n) rfl rfl rfl _ _ hz23 (by kernel_rfl) (by simp) (fun Wz24 pz25 => ?_)
  replace hB := pz25.below hB (by omega)
  replace hz5 := pz25.other hz5 (by omega)
  replace hz23 : At Wz24 Wz2.heap.size (.cells #[.int .i64 n] 2 (0, 0)) := pz25.at_
  refine hK' _ _ ?_
  clear hK' K' pz25
  refine wpList_nil ?_
  go_upto_region 6 with (fail)
  refine wp_region_lit ?_
  refine ls_ex (some 29) (.pointer (some ⟨w.heap.size, 2, none⟩)) rfl rfl (exec_fieldAddr 36 _ 2 rfl _ (by kernel_rfl)) ?_
  go_frame
  refine ls_ex (some 30) (.slice As ss.length cs) rfl rfl (exec_load_one 33 _ rfl w.heap.size 2 rfl (.slice As ss.length cs) _ Try.underlying33 rfl (hz5.at_ 2)) ?_
  go_frame
  refine ls_ex (some 31) (.int .i64 ss.length) rfl rfl (exec_len _ 33 57 rfl As ss.length cs rfl Try.underlying33) ?_
  go_frame
  refine ls_ex (some 32) (.int .i64 0) rfl rfl (exec_move _ rfl (.int .i64 0) rfl) ?_
  go_frame
  refine wpList_nil ?_
  go_wp2_with fail
  go_loopw [32] (fun s32 wr => ∃ k : Nat, k ≤ ss.length ∧ s32 = .int .i64 k ∧ Hid (stepsB p n ss k = true) ∧ Below w.heap.size w wr ∧ At wr w.heap.size (.cells #[.int .i64 p, .int .i64 n, .slice As ss.length cs, .slice Ao os.length co] 36 (0, 0)) ∧ At wr Wz2.heap.size (.cells #[.int .i64 (n + k)] 2 (0, 0))) (fun s32 _ => ss.length - (intOf s32).toNat)
  case atStart => exact ⟨0, by omega, rfl, Lib.hid rfl, hB, hz5, by have h9 := hz23; rwa [show n = n + ((0 : Nat) : Int) by omega] at h9⟩
  case round =>
    clear hB hz5 hz23
    obtain ⟨k, hk, rfl, HG, hB, h0, hv⟩ := hrel
    by_cases hlt : k < ss.length
    · obtain ⟨b, off, rfl, hc⟩ := (hs.keep hB).at_ hlt
      clear hc
      obtain ⟨l, r, f, hq⟩ := row3 (hs.good _ (List.getElem_mem hlt))
      have Hq := Lib.hid hq
      cases hst : stepB p (n + k) [l, r, f] with
      | false =>
        have HNo : Hid (progB p n ss os = false) := Lib.hid (progB_noS hlt (by rw [hq]; exact hst))
        have HS := Lib.hid hst
        clear hq hst
        go_upto_region 7 with (fail)
        refine wp_region_lit ?_
        refine ls_ex (some 33) (.bool true) rfl rfl (exec_lss _ _ _ _ rfl k ss.length rfl rfl true (decide_eq_true (by omega))) ?_
        go_frame
        refine wpList_nil ?_
        go_upto_region 8 with (fail)
        refine wp_region_lit ?_
        refine ls_ex (some 34) (.pointer (some ⟨b, off + k * 3, none⟩)) rfl rfl (exec_index_slice _ 57 _ _ rfl b off ss.length cs k 3 rfl rfl Try.underlying33 (by kernel_rfl) (by omega)) ?_
        go_frame
        refine ls_ex (some 35) (.agg #[.int .i64 l, .int .i64 r, .int .i64 f]) rfl rfl (exec_load_3 57 _ rfl b (off + k * 3) rfl l r f _ (RdK.cells_3 (hs.keep hB) hlt Hq.out) Try.underlying57 rfl (by kernel_rfl)) ?_
        go_frame
        refine ls_op rfl (fun K' hK' => ?_)
        have lz26 := hB.size
        have lz27 := h0.lt
        have lz28 := hv.lt
        refine wp_new (some 5) rfl (al_impl_Step rfl) (fun Wz29 nnz30 => ?_)
        have bz31 := nnz30.below (Below.refl _ _) (Nat.le_refl _)
        replace hB := below_after hB bz31
        replace h0 := h0.after bz31
        replace hv := hv.after bz31
        have hz32 : At Wz29 wr.heap.size (.cells #[.int .i64 0, .int .i64 0, .int .i64 0] 57 (0, 0)) := nnz30.at_
        refine hK' _ _ ?_
        clear hK' K' nnz30 bz31
        go_frame
        refine ls_op rfl (fun K' hK' => ?_)
        refine wp_store_all 57 _ _ rfl rfl wr.heap.size rfl #[.int .i64 l, .int .i64 r, .int .i64 f] rfl _ _ hz32 3 (by kernel_rfl) rfl rfl (by intro x hx; simp at hx; rcases hx with rfl | rfl | rfl <;> rfl) (fun Wz33 pz34 => ?_)
        replace hB := pz34.below hB (by omega)
        replace h0 := pz34.other h0 (by omega)
        replace hv := pz34.other hv (by omega)
        replace hz32 : At Wz33 wr.heap.size (.cells #[.int .i64 l, .int .i64 r, .int .i64 f] 57 (0, 0)) := pz34.at_
        refine hK' _ _ ?_
        clear hK' K' pz34
        refine wpList_nil ?_
        go_upto_region 9 with (fail)
        refine wp_region_lit ?_
        refine ls_ex (some 36) (.pointer (some ⟨w.heap.size, 0, none⟩)) rfl rfl (exec_fieldAddr 36 _ 0 rfl _ (by kernel_rfl)) ?_
        go_frame
        refine ls_ex (some 37) (.int .i64 p) rfl rfl (exec_load_one 2 _ rfl w.heap.size 0 rfl (.int .i64 p) _ Try.underlying2 rfl (h0.at_ 0)) ?_
        go_frame
        refine ls_ex (some 38) (.int .i64 (n + k)) rfl rfl (exec_load_one 2 _ rfl Wz2.heap.size 0 rfl (.int .i64 (n + k)) _ Try.underlying2 rfl (hv.at_ 0)) ?_
        go_frame
        refine ls_ex (some 39) (.agg #[.int .i64 l, .int .i64 r, .int .i64 f]) rfl rfl (exec_load_all 57 _ rfl wr.heap.size rfl _ _ _ hz32 Try.underlying57 rfl 3 (by kernel_rfl) rfl) ?_
        go_frame
        refine ls_op rfl (fun K' hK' => ?_)
        have lz37 := hB.size
        have lz38 := h0.lt
        have lz39 := hv.lt
        have lz40 := hz32.lt
        refine wp_call3 (some 40) rfl 39 _ _ _ _ rfl (fun args w => by kernel_rfl) _ _ _ rfl rfl rfl _ (isStep_c p (n + k) l r f _ (by omega)) (fun e Wz35 h => ?_)
        obtain ⟨rfl, bz36⟩ := h
        replace hB := below_after hB bz36
        replace h0 := h0.after bz36
        replace hv := hv.after bz36
        replace hz32 := hz32.after bz36
        rw [HS.out]
        clear bz36
        refine ⟨_, rfl, ?_⟩
        refine hK' _ _ ?_
        clear hK' K'
        go_frame
        refine ls_ex (some 41) (.bool true) rfl rfl (exec_not _ _ rfl false rfl) ?_
        go_frame
        refine wpList_nil ?_
        go_upto_region 10 with (fail)
        refine wp_region_lit ?_
        refine ls_ex (some 2) (.bool false) rfl rfl (exec_assign _ rfl (.bool false) rfl) ?_
        go_frame
        refine wpList_nil ?_
        go_wp2_with fail
        go_ret
        exact ⟨by rw [HNo.out]; rfl, hB⟩
      | true =>
        have HY : Hid (stepsB p n ss (k + 1) = true) := Lib.hid (stepsB_step hlt HG.out (by rw [hq]; exact hst))
        have HS := Lib.hid hst
        clear hq hst
        go_upto_region 7 with (fail)
        refine wp_region_lit ?_
        refine ls_ex (some 33) (.bool true) rfl rfl (exec_lss _ _ _ _ rfl k ss.length rfl rfl true (decide_eq_true (by omega))) ?_
        go_frame
        refine wpList_nil ?_
        go_upto_region 8 with (fail)
        refine wp_region_lit ?_
        refine ls_ex (some 34) (.pointer (some ⟨b, off + k * 3, none⟩)) rfl rfl (exec_index_slice _ 57 _ _ rfl b off ss.length cs k 3 rfl rfl Try.underlying33 (by kernel_rfl) (by omega)) ?_
        go_frame
        refine ls_ex (some 35) (.agg #[.int .i64 l, .int .i64 r, .int .i64 f]) rfl rfl (exec_load_3 57 _ rfl b (off + k * 3) rfl l r f _ (RdK.cells_3 (hs.keep hB) hlt Hq.out) Try.underlying57 rfl (by kernel_rfl)) ?_
        go_frame
        refine ls_op rfl (fun K' hK' => ?_)
        have lz41 := hB.size
        have lz42 := h0.lt
        have lz43 := hv.lt
        refine wp_new (some 5) rfl (al_impl_Step rfl) (fun Wz44 nnz45 => ?_)
        have bz46 := nnz45.below (Below.refl _ _) (Nat.le_refl _)
        replace hB := below_after hB bz46
        replace h0 := h0.after bz46
        replace hv := hv.after bz46
        have hz47 : At Wz44 wr.heap.size (.cells #[.int .i64 0, .int .i64 0, .int .i64 0] 57 (0, 0)) := nnz45.at_
        refine hK' _ _ ?_
        clear hK' K' nnz45 bz46
        go_frame
        refine ls_op rfl (fun K' hK' => ?_)
        refine wp_store_all 57 _ _ rfl rfl wr.heap.size rfl #[.int .i64 l, .int .i64 r, .int .i64 f] rfl _ _ hz47 3 (by kernel_rfl) rfl rfl (by intro x hx; simp at hx; rcases hx with rfl | rfl | rfl <;> rfl) (fun Wz48 pz49 => ?_)
        replace hB := pz49.below hB (by omega)
        replace h0 := pz49.other h0 (by omega)
        replace hv := pz49.other hv (by omega)
        replace hz47 : At Wz48 wr.heap.size (.cells #[.int .i64 l, .int .i64 r, .int .i64 f] 57 (0, 0)) := pz49.at_
        refine hK' _ _ ?_
        clear hK' K' pz49
        refine wpList_nil ?_
        go_upto_region 9 with (fail)
        refine wp_region_lit ?_
        refine ls_ex (some 36) (.pointer (some ⟨w.heap.size, 0, none⟩)) rfl rfl (exec_fieldAddr 36 _ 0 rfl _ (by kernel_rfl)) ?_
        go_frame
        refine ls_ex (some 37) (.int .i64 p) rfl rfl (exec_load_one 2 _ rfl w.heap.size 0 rfl (.int .i64 p) _ Try.underlying2 rfl (h0.at_ 0)) ?_
        go_frame
        refine ls_ex (some 38) (.int .i64 (n + k)) rfl rfl (exec_load_one 2 _ rfl Wz2.heap.size 0 rfl (.int .i64 (n + k)) _ Try.underlying2 rfl (hv.at_ 0)) ?_
        go_frame
        refine ls_ex (some 39) (.agg #[.int .i64 l, .int .i64 r, .int .i64 f]) rfl rfl (exec_load_all 57 _ rfl wr.heap.size rfl _ _ _ hz47 Try.underlying57 rfl 3 (by kernel_rfl) rfl) ?_
        go_frame
        refine ls_op rfl (fun K' hK' => ?_)
        have lz52 := hB.size
        have lz53 := h0.lt
        have lz54 := hv.lt
        have lz55 := hz47.lt
        refine wp_call3 (some 40) rfl 39 _ _ _ _ rfl (fun args w => by kernel_rfl) _ _ _ rfl rfl rfl _ (isStep_c p (n + k) l r f _ (by omega)) (fun e Wz50 h => ?_)
        obtain ⟨rfl, bz51⟩ := h
        replace hB := below_after hB bz51
        replace h0 := h0.after bz51
        replace hv := hv.after bz51
        replace hz47 := hz47.after bz51
        rw [HS.out]
        clear bz51
        refine ⟨_, rfl, ?_⟩
        refine hK' _ _ ?_
        clear hK' K'
        go_frame
        refine ls_ex (some 41) (.bool false) rfl rfl (exec_not _ _ rfl true rfl) ?_
        go_frame
        refine wpList_nil ?_
        go_upto_region 11 with (fail)
        refine wp_region_lit ?_
        refine ls_ex (some 42) (.int .i64 (n + k)) rfl rfl (exec_load_one 2 _ rfl Wz2.heap.size 0 rfl (.int .i64 (n + k)) _ Try.underlying2 rfl (hv.at_ 0)) ?_
        go_frame
        refine ls_ex (some 43) (.int .i64 ((n + k) + 1)) rfl rfl (exec_add _ _ _ _ rfl ((n + k)) 1 ((n + k) + 1) rfl rfl (IntWalk.i64_in _ (by omega))) ?_
        go_frame
        refine ls_op rfl (fun K' hK' => ?_)
        refine wp_store_one 2 _ _ rfl rfl Wz2.heap.size 0 rfl (.int .i64 ((n + k) + 1)) rfl rfl rfl _ _ hv (by kernel_rfl) (by simp) (fun Wz56 pz57 => ?_)
        replace hB := pz57.below hB (by omega)
        replace h0 := pz57.other h0 (by omega)
        replace hz47 := pz57.other hz47 (by omega)
        replace hv : At Wz56 Wz2.heap.size (.cells #[.int .i64 ((n + k) + 1)] 2 (0, 0)) := pz57.at_
        refine hK' _ _ ?_
        clear hK' K' pz57
        refine wpList_nil ?_
        go_upto_region 12 with (fail)
        refine wp_region_lit ?_
        refine ls_ex (some 44) (.int .i64 (k + 1)) rfl rfl (exec_add _ _ _ _ rfl k 1 (k + 1) rfl rfl (IntWalk.i64_in _ (by omega))) ?_
        go_frame
        refine ls_ex (some 32) (.int .i64 (k + 1)) rfl rfl (exec_move _ rfl (.int .i64 (k + 1)) rfl) ?_
        go_frame
        refine wpList_nil ?_
        go_wp2_with fail
        go_roundw
        case rel => exact ⟨k + 1, by omega, by go_num, HY, hB, h0, by have h9 := hv; rwa [show n + (k : Int) + 1 = n + ((k + 1 : Nat) : Int) by omega] at h9⟩
        case measure => simp [intOf]; omega
    · have HSt : Hid (stepsB p n ss ss.length = true) := Lib.hid (by rw [← show k = ss.length by omega]; exact HG.out)
      have hv2 : At wr Wz2.heap.size (.cells #[.int .i64 (n + ss.length)] 2 (0, 0)) := by rw [← show k = ss.length by omega]; exact hv
      clear HG hv
      go_upto_region 7 with (fail)
      refine wp_region_lit ?_
      refine ls_ex (some 33) (.bool false) rfl rfl (exec_lss _ _ _ _ rfl k ss.length rfl rfl false (decide_eq_false (by omega))) ?_
      go_frame
      refine wpList_nil ?_
      go_upto_region 13 with (fail)
      refine wp_region_lit ?_
      refine ls_ex (some 45) (.pointer (some ⟨w.heap.size, 3, none⟩)) rfl rfl (exec_fieldAddr 36 _ 3 rfl _ (by kernel_rfl)) ?_
      go_frame
      refine ls_ex (some 46) (.slice Ao os.length co) rfl rfl (exec_load_one 34 _ rfl w.heap.size 3 rfl (.slice Ao os.length co) _ Try.underlying34 rfl (h0.at_ 3)) ?_
      go_frame
      refine ls_ex (some 47) (.func (.func 41) #[] #[.pointer (some ⟨w.heap.size, 0, none⟩), .pointer (some ⟨Wz2.heap.size, 0, none⟩)]) rfl rfl (pg_mkfn2 _ _ _ rfl (.pointer (some ⟨w.heap.size, 0, none⟩)) (.pointer (some ⟨Wz2.heap.size, 0, none⟩)) rfl rfl) ?_
      go_frame
      refine ls_op rfl (fun K' hK' => ?_)
      have lz60 := hB.size
      have lz61 := h0.lt
      have lz62 := hv2.lt
      refine wp_call2 (some 48) rfl 40 _ _ _ rfl (fun args w => by kernel_rfl) _ _ rfl rfl _ (containsOut_c p (n + ss.length) n (.slice As ss.length cs) (.slice Ao os.length co) w.heap.size Wz2.heap.size Ao co os _ (ho.keep hB) hno h0 hv2 (by omega) (by omega)) (fun e Wz58 h => ?_)
      obtain ⟨rfl, bz59⟩ := h
      replace hB := below_after hB bz59
      replace h0 := h0.after bz59
      replace hv2 := hv2.after bz59
      clear bz59
      refine ⟨_, rfl, ?_⟩
      refine hK' _ _ ?_
      clear hK' K'
      go_frame
      refine ls_ex (some 49) (.bool (!(!(outsB p (n + ss.length) os os.length)))) rfl rfl (exec_not _ _ rfl ((!(outsB p (n + ss.length) os os.length))) rfl) ?_
      go_frame
      refine ls_ex (some 2) (.bool (!(!(outsB p (n + ss.length) os os.length)))) rfl rfl (exec_assign _ rfl (.bool (!(!(outsB p (n + ss.length) os os.length)))) rfl) ?_
      go_frame
      refine wpList_nil ?_
      go_wp2_with fail
      go_ret
      exact ⟨by rw [progB_last HP.out HN.out (by omega) (by omega) (by omega) HSt.out]; simp, hB⟩
theorem implIsProgram_c (p n : Int) (As Ao : Option Addr) (cs co : Nat) (ss os : List (List Int)) (w : World) (hs : RdK 3 w As ss) (ho : RdK 2 w Ao os) (hns : ss.length ≤ 1048576) (hno : os.length ≤ 1048576) : Calls Try.prog 15 #[.agg #[.int .i64 p, .int .i64 n, .slice As ss.length cs, .slice Ao os.length co]] w (fun e w' => e = .returned (.bool (progB p n ss os)) ∧ Below w.heap.size w w') := by
  cases hp : primeB p with
  | false => exact implIsProgram_a p n As Ao cs co ss os w hs ho hns hno hp
  | true =>
    cases hn : (decide (1 ≤ n) && decide (n ≤ 30)) with
    | false => exact implIsProgram_b p n As Ao cs co ss os w hs ho hns hno hp hn
    | true =>
      by_cases h1 : 1 ≤ os.length ∧ os.length ≤ 30
      · by_cases hl : ss.length ≤ 900
        · exact implIsProgram_f p n As Ao cs co ss os w hs ho hns hno hp hn h1 hl
        · exact implIsProgram_c_ p n As Ao cs co ss os w hs ho hns hno hp hn h1 (by omega)
      · exact implIsProgram_d p n As Ao cs co ss os w hs ho hns hno hp hn h1
set_option maxHeartbeats 4000000 in
theorem specIsProgram_c (p n : Int) (As Ao : Option Addr) (cs co : Nat) (ss os : List (List Int)) (w : World) (hs : RdK 3 w As ss) (ho : RdK 2 w Ao os) (hns : ss.length ≤ 1048576) (hno : os.length ≤ 1048576) :
    Calls Try.prog 13 #[.agg #[.int .i64 p, .int .i64 n, .slice As ss.length cs, .slice Ao os.length co]] w (fun e w' => e = .returned (.bool (progB p n ss os)) ∧ Below w.heap.size w w') := by
  have hB := Below.refl w.heap.size w
  skip
  go_enter Try.func13, Try.ntmps13
  go_upto_region 0 with (fail)
  refine wp_region_lit ?_
  refine ls_op rfl (fun K' hK' => ?_)
  have lz1 := hB.size
  refine wp_new (some 1) rfl (exec_box 36 _ rfl (#[.int .i64 p, .int .i64 n, .slice As ss.length cs, .slice Ao os.length co]) rfl) (fun Wz2 nnz3 => ?_)
  have bz4 := nnz3.below (Below.refl _ _) (Nat.le_refl _)
  replace hB := below_after hB bz4
  have hz5 : At Wz2 w.heap.size (.cells #[.int .i64 p, .int .i64 n, .slice As ss.length cs, .slice Ao os.length co] 36 (0, 0)) := nnz3.at_
  refine hK' _ _ ?_
  clear hK' K' nnz3 bz4
  go_frame
  refine ls_ex (some 2) (.bool false) rfl rfl (exec_assign _ rfl (.bool false) rfl) ?_
  go_frame
  refine wpList_nil ?_
  go_upto_region 1 with (fail)
  refine wp_region_lit ?_
  refine ls_ex (some 3) (.agg #[.int .i64 p, .int .i64 n, .slice As ss.length cs, .slice Ao os.length co]) rfl rfl (exec_load_all 36 _ rfl w.heap.size rfl _ _ _ hz5 Try.underlying36 rfl 4 (by kernel_rfl) rfl) ?_
  go_frame
  refine ls_op rfl (fun K' hK' => ?_)
  have lz8 := hB.size
  have lz9 := hz5.lt
  refine wp_call1 (some 4) rfl 35 _ _ rfl (fun args w => by kernel_rfl) _ rfl _ (l07Is_c p n As Ao cs co ss os _ (hs.keep hB) (ho.keep hB) hns hno) (fun e Wz6 h => ?_)
  obtain ⟨rfl, bz7⟩ := h
  replace hB := below_after hB bz7
  replace hz5 := hz5.after bz7
  clear bz7
  refine ⟨_, rfl, ?_⟩
  refine hK' _ _ ?_
  clear hK' K'
  go_frame
  refine ls_ex (some 2) (.bool (progB p n ss os)) rfl rfl (exec_assign _ rfl (.bool (progB p n ss os)) rfl) ?_
  go_frame
  refine wpList_nil ?_
  go_wp2_with fail
  go_ret
  exact ⟨rfl, hB⟩
end Go.Proofs.Ytokmchadckcilaa
