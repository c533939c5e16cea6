/-
  What a program is; impl.isStep, isOutput. (Made by mkpg2.py.)
-/
import Derived.Test.YtokmchadckcilaaPg1
import Derived.Test.YtokmchadckcilaaRight1
import Derived.Test.YtokmchadckcilaaCs1
import Derived.ChangeKeysEq
namespace Go.Proofs.Ytokmchadckcilaa
open Go.RowKit
set_option maxRecDepth 100000
attribute [local irreducible] wpList
def k0 (q : List Int) : Int := q[0]?.getD 0
def k1 (q : List Int) : Int := q[1]?.getD 0
def k2 (q : List Int) : Int := q[2]?.getD 0
/-- A step that may stand behind m values. -/
def stepB (p m : Int) (q : List Int) : Bool := (decide (0 ≤ k0 q) && decide (k0 q ≤ m - 1)) && (decide (0 ≤ k1 q) && decide (k1 q ≤ m - 1)) && !(k0 q == k1 q) && (decide (1 ≤ k2 q) && decide (k2 q ≤ p - 1))
/-- An output of a program with m values. -/
def outB (p m : Int) (q : List Int) : Bool := (decide (0 ≤ k0 q) && decide (k0 q ≤ m - 1)) && (decide (0 ≤ k1 q) && decide (k1 q ≤ p - 1)) && !(k1 q == 0 && k0 q != 0)
theorem stepB_eq {p m l r f : Int} : stepB p m [l, r, f] = (inB l m && inB r m && (l != r) && (decide (1 ≤ f) && decide (f ≤ p - 1))) := by
  have e : ∀ x : Int, decide (x ≤ m - 1) = decide (x < m) := fun x => by
    rw [Bool.eq_iff_iff]
    simp only [decide_eq_true_eq]
    omega
  have h : stepB p m [l, r, f] = ((decide (0 ≤ l) && decide (l ≤ m - 1)) && (decide (0 ≤ r) && decide (r ≤ m - 1)) && !(l == r) && (decide (1 ≤ f) && decide (f ≤ p - 1))) := rfl
  rw [h]
  simp only [inB, e]
  rfl
theorem outB_eq {p m v f : Int} (hp : 2 ≤ p ∧ p ≤ 5) (hm : 1 ≤ m) : outB p m [v, f] = ((v == 0 && f == 0) || (inB v m && (decide (1 ≤ f) && decide (f ≤ p - 1)))) := by
  have h : outB p m [v, f] = ((decide (0 ≤ v) && decide (v ≤ m - 1)) && (decide (0 ≤ f) && decide (f ≤ p - 1)) && !(f == 0 && v != 0)) := rfl
  rw [h, Bool.eq_iff_iff]
  simp only [inB, Bool.and_eq_true, Bool.or_eq_true, decide_eq_true_eq, beq_iff_eq, Bool.not_eq_true', Bool.and_eq_false_iff, beq_eq_false_iff_ne, bne_eq_false_iff_eq]
  omega
theorem stepB_sp {p m l r f : Int} : stepB p m [l, r, f] = ((decide (0 ≤ l) && decide (l ≤ m - 1)) && (decide (0 ≤ r) && decide (r ≤ m - 1)) && !(l == r) && (decide (1 ≤ f) && decide (f ≤ p - 1))) := rfl
theorem outB_sp {p m v f : Int} : outB p m [v, f] = ((decide (0 ≤ v) && decide (v ≤ m - 1)) && (decide (0 ≤ f) && decide (f ≤ p - 1)) && !(f == 0 && v != 0)) := rfl
/-- The first k steps are steps. -/
def stepsB (p n : Int) (ss : List (List Int)) : Nat → Bool
  | 0 => true
  | k + 1 => stepsB p n ss k && stepB p (n + k) (ss[k]?.getD [])
/-- The first k outputs are outputs. -/
def outsB (p m : Int) (os : List (List Int)) : Nat → Bool
  | 0 => true
  | k + 1 => outsB p m os k && outB p m (os[k]?.getD [])
def progB (p n : Int) (ss os : List (List Int)) : Bool := primeB p && (decide (1 ≤ n) && decide (n ≤ 30)) && decide (ss.length ≤ 900) && (decide (1 ≤ os.length) && decide (os.length ≤ 30)) && stepsB p n ss ss.length && outsB p (n + ss.length) os os.length
theorem stepsB_at {p n : Int} {ss : List (List Int)} {N : Nat} (h : stepsB p n ss N = true) : ∀ k, k < N → stepB p (n + k) (ss[k]?.getD []) = true := by
  induction N with
  | zero => intro k hk; omega
  | succ N ih =>
    intro k hk
    simp only [stepsB, Bool.and_eq_true] at h
    by_cases e : k = N
    · subst e; exact h.2
    · exact ih h.1 k (by omega)
theorem outsB_at {p m : Int} {os : List (List Int)} {N : Nat} (h : outsB p m os N = true) : ∀ k, k < N → outB p m (os[k]?.getD []) = true := by
  induction N with
  | zero => intro k hk; omega
  | succ N ih =>
    intro k hk
    simp only [outsB, Bool.and_eq_true] at h
    by_cases e : k = N
    · subst e; exact h.2
    · exact ih h.1 k (by omega)
theorem stepsB_step {p n : Int} {ss : List (List Int)} {k : Nat} (hk : k < ss.length) (h : stepsB p n ss k = true) (h1 : stepB p (n + k) ss[k] = true) : stepsB p n ss (k + 1) = true := by
  simp only [stepsB, h, Bool.true_and, List.getElem?_eq_getElem hk, Option.getD_some, h1]
theorem outsB_step {p m : Int} {os : List (List Int)} {k : Nat} (hk : k < os.length) (h : outsB p m os k = true) (h1 : outB p m os[k] = true) : outsB p m os (k + 1) = true := by
  simp only [outsB, h, Bool.true_and, List.getElem?_eq_getElem hk, Option.getD_some, h1]
section
variable {p n : Int} {ss os : List (List Int)}
theorem progB_parts (h : progB p n ss os = true) : primeB p = true ∧ (1 ≤ n ∧ n ≤ 30) ∧ ss.length ≤ 900 ∧ (1 ≤ os.length ∧ os.length ≤ 30) ∧ stepsB p n ss ss.length = true ∧ outsB p (n + ss.length) os os.length = true := by
  simp only [progB, Bool.and_eq_true, decide_eq_true_eq] at h
  exact ⟨h.1.1.1.1.1, h.1.1.1.1.2, h.1.1.1.2, h.1.1.2, h.1.2, h.2⟩
theorem progB_noS {k : Nat} (hk : k < ss.length) (h : stepB p (n + k) ss[k] = false) : progB p n ss os = false := by
  rw [Bool.eq_false_iff]
  intro hc
  have h1 := stepsB_at (progB_parts hc).2.2.2.2.1 k hk
  rw [List.getElem?_eq_getElem hk, Option.getD_some, h] at h1
  cases h1
theorem progB_noO {k : Nat} (hk : k < os.length) (h : outB p (n + ss.length) os[k] = false) : progB p n ss os = false := by
  rw [Bool.eq_false_iff]
  intro hc
  have h1 := outsB_at (progB_parts hc).2.2.2.2.2 k hk
  rw [List.getElem?_eq_getElem hk, Option.getD_some, h] at h1
  cases h1
theorem progB_yes (h1 : primeB p = true) (h2 : (decide (1 ≤ n) && decide (n ≤ 30)) = true) (h3 : ss.length ≤ 900) (h4 : 1 ≤ os.length) (h5 : os.length ≤ 30) (h6 : stepsB p n ss ss.length = true) (h7 : outsB p (n + ss.length) os os.length = true) : progB p n ss os = true := by
  unfold progB
  rw [h1, h2, decide_eq_true h3, decide_eq_true h4, decide_eq_true h5, h6, h7]
  rfl
end
theorem primeB_bounds {p : Int} (h : primeB p = true) : 2 ≤ p ∧ p ≤ 5 := by
  simp only [primeB, Bool.or_eq_true, beq_iff_eq] at h
  omega
theorem row3 {q : List Int} (h : q.length = 3) : ∃ l r f, q = [l, r, f] := by
  match q, h with
  | [l, r, f], _ => exact ⟨l, r, f, rfl⟩
theorem row2 {q : List Int} (h : q.length = 2) : ∃ v f, q = [v, f] := by
  match q, h with
  | [v, f], _ => exact ⟨v, f, rfl⟩
theorem RdK.cells_3 {w : World} {b off i : Nat} {qs : List (List Int)} {l r f : Int} (h : RdK 3 w (some ⟨b, off, none⟩) qs) (hi : i < qs.length) (hq : qs[i] = [l, r, f]) : ∀ j, j < 3 → w.cell? ⟨b, off + i * 3 + j, none⟩ = some (.int .i64 ([l, r, f][j]?.getD 0)) := by
  rw [← hq]; exact h.cells hi
theorem RdK.cells_2 {w : World} {b off i : Nat} {qs : List (List Int)} {v f : Int} (h : RdK 2 w (some ⟨b, off, none⟩) qs) (hi : i < qs.length) (hq : qs[i] = [v, f]) : ∀ j, j < 2 → w.cell? ⟨b, off + i * 2 + j, none⟩ = some (.int .i64 ([v, f][j]?.getD 0)) := by
  rw [← hq]; exact h.cells hi
theorem exec_load_3 {P : Program} {o : Oper} {a : Act} {w : World} (ty : TypeId) (x : Operand) (ho : o.op = .load ty x) (g off : Nat) (hx : a.eval x = .pointer (some ⟨g, off, none⟩)) (l r f : Int) (d : TypeDesc) (hc : ∀ j, j < 3 → w.cell? ⟨g, off + j, none⟩ = some (.int .i64 ([l, r, f][j]?.getD 0)))
    (hu : P.underlying ty = some d) (hd : (match d with | .struct _ | .array _ _ => true | _ => false) = true) (hi : (P.info? ty).map (·.size) = some 3) : (execOp a.eval o).run P w = .ok (.value (.agg #[.int .i64 l, .int .i64 r, .int .i64 f])) w :=
  exec_load_ints ty x ho g off hx [l, r, f] d 3 hc hu hd hi rfl
theorem exec_load_2 {P : Program} {o : Oper} {a : Act} {w : World} (ty : TypeId) (x : Operand) (ho : o.op = .load ty x) (g off : Nat) (hx : a.eval x = .pointer (some ⟨g, off, none⟩)) (v f : Int) (d : TypeDesc) (hc : ∀ j, j < 2 → w.cell? ⟨g, off + j, none⟩ = some (.int .i64 ([v, f][j]?.getD 0)))
    (hu : P.underlying ty = some d) (hd : (match d with | .struct _ | .array _ _ => true | _ => false) = true) (hi : (P.info? ty).map (·.size) = some 2) : (execOp a.eval o).run P w = .ok (.value (.agg #[.int .i64 v, .int .i64 f])) w :=
  exec_load_ints ty x ho g off hx [v, f] d 2 hc hu hd hi rfl
theorem exec_eql_out {o : Oper} {a : Act} {w : World} (x y : Operand) (ho : o.op = .binOp .eql 61 x y 61) (v f v' f' : Int) (hx : a.eval x = .agg #[.int .i64 v, .int .i64 f]) (hy : a.eval y = .agg #[.int .i64 v', .int .i64 f']) (b : Bool) (hb : (v == v' && f == f') = b) :
    (execOp a.eval o).run Try.prog w = .ok (.value (.bool b)) w := by
  subst hb
  unfold execOp
  simp only [ho, hx, hy]
  simp [go_sem]
  by_cases h1 : v = v' <;> by_cases h2 : f = f' <;> simp [h1, h2]
set_option maxHeartbeats 4000000 in
theorem isStep_1 (p m l r f : Int) (w : World) (hp : 2 ≤ p ∧ p ≤ 5) (hl : inB l m = false) :
    Calls Try.prog 39 #[.int .i64 p, .int .i64 m, .agg #[.int .i64 l, .int .i64 r, .int .i64 f]] w (fun e w' => e = .returned (.bool (stepB p m [l, r, f])) ∧ Below w.heap.size w w') := by
  have hB := Below.refl w.heap.size w
  have _u0 := hp
  clear _u0
  have Hr : Hid (stepB p m [l, r, f] = false) := Lib.hid (by rw [stepB_eq, hl]; simp)
  have HL := Lib.hid hl
  clear hl
  go_enter Try.func39, Try.ntmps39
  go_upto_region 0 with (fail)
  refine wp_region_lit ?_
  refine ls_op rfl (fun K' hK' => ?_)
  have lz1 := hB.size
  refine wp_new (some 5) rfl (exec_box 57 _ rfl (#[.int .i64 l, .int .i64 r, .int .i64 f]) rfl) (fun Wz2 nnz3 => ?_)
  have bz4 := nnz3.below (Below.refl _ _) (Nat.le_refl _)
  replace hB := below_after hB bz4
  have hz5 : At Wz2 w.heap.size (.cells #[.int .i64 l, .int .i64 r, .int .i64 f] 57 (0, 0)) := nnz3.at_
  refine hK' _ _ ?_
  clear hK' K' nnz3 bz4
  go_frame
  refine ls_ex (some 6) (.bool false) rfl rfl (exec_assign _ rfl (.bool false) rfl) ?_
  go_frame
  refine wpList_nil ?_
  go_upto_region 1 with (fail)
  refine wp_region_lit ?_
  refine ls_ex (some 7) (.pointer (some ⟨w.heap.size, 0, none⟩)) rfl rfl (exec_fieldAddr 57 _ 0 rfl _ (by kernel_rfl)) ?_
  go_frame
  refine ls_ex (some 8) (.int .i64 l) rfl rfl (exec_load_one 2 _ rfl w.heap.size 0 rfl (.int .i64 l) _ Try.underlying2 rfl (hz5.at_ 0)) ?_
  go_frame
  refine ls_ex (some 9) (.int .i64 m) rfl rfl (exec_move _ rfl (.int .i64 m) rfl) ?_
  go_frame
  refine ls_op rfl (fun K' hK' => ?_)
  have lz8 := hB.size
  have lz9 := hz5.lt
  refine wp_call2 (some 10) rfl 53 _ _ _ rfl (fun args w => by kernel_rfl) _ _ rfl rfl _ (isIndex_c l m _) (fun e Wz6 h => ?_)
  obtain ⟨rfl, rfl⟩ := h
  rw [HL.out]
  refine ⟨_, rfl, ?_⟩
  refine hK' _ _ ?_
  clear hK' K'
  go_frame
  refine ls_ex (some 11) (.bool false) rfl rfl (exec_move _ rfl (.bool false) rfl) ?_
  go_frame
  refine ls_skip_g (some 12) rfl rfl ?_
  go_frame
  refine ls_skip_g (some 13) rfl rfl ?_
  go_frame
  refine ls_skip_g (some 14) rfl rfl ?_
  go_frame
  refine ls_skip_g (some 15) rfl rfl ?_
  go_frame
  refine ls_ex (some 16) (.bool false) rfl rfl (exec_pick _ _ _ rfl false rfl (.bool false) rfl) ?_
  go_frame
  refine ls_ex (some 17) (.bool false) rfl rfl (exec_move _ rfl (.bool false) rfl) ?_
  go_frame
  refine ls_skip_g (some 18) rfl rfl ?_
  go_frame
  refine ls_skip_g (some 19) rfl rfl ?_
  go_frame
  refine ls_skip_g (some 20) rfl rfl ?_
  go_frame
  refine ls_skip_g (some 21) rfl rfl ?_
  go_frame
  refine ls_skip_g (some 22) rfl rfl ?_
  go_frame
  refine ls_ex (some 23) (.bool false) rfl rfl (exec_pick _ _ _ rfl false rfl (.bool false) rfl) ?_
  go_frame
  refine ls_ex (some 24) (.bool false) rfl rfl (exec_move _ rfl (.bool false) rfl) ?_
  go_frame
  refine ls_skip_g (some 25) rfl rfl ?_
  go_frame
  refine ls_skip_g (some 26) rfl rfl ?_
  go_frame
  refine ls_skip_g (some 27) rfl rfl ?_
  go_frame
  refine ls_skip_g (some 28) rfl rfl ?_
  go_frame
  refine ls_skip_g (some 29) rfl rfl ?_
  go_frame
  refine ls_ex (some 30) (.bool false) rfl rfl (exec_pick _ _ _ rfl false rfl (.bool false) rfl) ?_
  go_frame
  refine ls_ex (some 6) (.bool false) rfl rfl (exec_assign _ rfl (.bool false) rfl) ?_
  go_frame
  refine wpList_nil ?_
  go_wp2_with fail
  go_ret
  exact ⟨by rw [Hr.out]; rfl, hB⟩
set_option maxHeartbeats 4000000 in
theorem isStep_2 (p m l r f : Int) (w : World) (hp : 2 ≤ p ∧ p ≤ 5) (hl : inB l m = true) (hr : inB r m = false) :
    Calls Try.prog 39 #[.int .i64 p, .int .i64 m, .agg #[.int .i64 l, .int .i64 r, .int .i64 f]] w (fun e w' => e = .returned (.bool (stepB p m [l, r, f])) ∧ Below w.heap.size w w') := by
  have hB := Below.refl w.heap.size w
  have _u0 := hp
  clear _u0
  have Hr : Hid (stepB p m [l, r, f] = false) := Lib.hid (by rw [stepB_eq, hl, hr]; simp)
  have HL := Lib.hid hl
  have HR := Lib.hid hr
  clear hl hr
  go_enter Try.func39, Try.ntmps39
  go_upto_region 0 with (fail)
  refine wp_region_lit ?_
  refine ls_op rfl (fun K' hK' => ?_)
  have lz1 := hB.size
  refine wp_new (some 5) rfl (exec_box 57 _ rfl (#[.int .i64 l, .int .i64 r, .int .i64 f]) rfl) (fun Wz2 nnz3 => ?_)
  have bz4 := nnz3.below (Below.refl _ _) (Nat.le_refl _)
  replace hB := below_after hB bz4
  have hz5 : At Wz2 w.heap.size (.cells #[.int .i64 l, .int .i64 r, .int .i64 f] 57 (0, 0)) := nnz3.at_
  refine hK' _ _ ?_
  clear hK' K' nnz3 bz4
  go_frame
  refine ls_ex (some 6) (.bool false) rfl rfl (exec_assign _ rfl (.bool false) rfl) ?_
  go_frame
  refine wpList_nil ?_
  go_upto_region 1 with (fail)
  refine wp_region_lit ?_
  refine ls_ex (some 7) (.pointer (some ⟨w.heap.size, 0, none⟩)) rfl rfl (exec_fieldAddr 57 _ 0 rfl _ (by kernel_rfl)) ?_
  go_frame
  refine ls_ex (some 8) (.int .i64 l) rfl rfl (exec_load_one 2 _ rfl w.heap.size 0 rfl (.int .i64 l) _ Try.underlying2 rfl (hz5.at_ 0)) ?_
  go_frame
  refine ls_ex (some 9) (.int .i64 m) rfl rfl (exec_move _ rfl (.int .i64 m) rfl) ?_
  go_frame
  refine ls_op rfl (fun K' hK' => ?_)
  have lz8 := hB.size
  have lz9 := hz5.lt
  refine wp_call2 (some 10) rfl 53 _ _ _ rfl (fun args w => by kernel_rfl) _ _ rfl rfl _ (isIndex_c l m _) (fun e Wz6 h => ?_)
  obtain ⟨rfl, rfl⟩ := h
  rw [HL.out]
  refine ⟨_, rfl, ?_⟩
  refine hK' _ _ ?_
  clear hK' K'
  go_frame
  refine ls_ex (some 11) (.bool true) rfl rfl (exec_move _ rfl (.bool true) rfl) ?_
  go_frame
  refine ls_ex_g (some 12) (.pointer (some ⟨w.heap.size, 1, none⟩)) rfl rfl (exec_fieldAddr 57 _ 1 rfl _ (by kernel_rfl)) ?_
  go_frame
  refine ls_ex_g (some 13) (.int .i64 r) rfl rfl (exec_load_one 2 _ rfl w.heap.size 1 rfl (.int .i64 r) _ Try.underlying2 rfl (hz5.at_ 1)) ?_
  go_frame
  refine ls_ex_g (some 14) (.int .i64 m) rfl rfl (exec_move _ rfl (.int .i64 m) rfl) ?_
  go_frame
  refine ls_op_g rfl (fun K' hK' => ?_)
  have lz12 := hB.size
  have lz13 := hz5.lt
  refine wp_call2 (some 15) rfl 53 _ _ _ rfl (fun args w => by kernel_rfl) _ _ rfl rfl _ (isIndex_c r m _) (fun e Wz10 h => ?_)
  obtain ⟨rfl, rfl⟩ := h
  rw [HR.out]
  refine ⟨_, rfl, ?_⟩
  refine hK' _ _ ?_
  clear hK' K'
  go_frame
  refine ls_ex (some 16) (.bool false) rfl rfl (exec_pick _ _ _ rfl true rfl (.bool false) rfl) ?_
  go_frame
  refine ls_ex (some 17) (.bool false) rfl rfl (exec_move _ rfl (.bool false) rfl) ?_
  go_frame
  refine ls_skip_g (some 18) rfl rfl ?_
  go_frame
  refine ls_skip_g (some 19) rfl rfl ?_
  go_frame
  refine ls_skip_g (some 20) rfl rfl ?_
  go_frame
  refine ls_skip_g (some 21) rfl rfl ?_
  go_frame
  refine ls_skip_g (some 22) rfl rfl ?_
  go_frame
  refine ls_ex (some 23) (.bool false) rfl rfl (exec_pick _ _ _ rfl false rfl (.bool false) rfl) ?_
  go_frame
  refine ls_ex (some 24) (.bool false) rfl rfl (exec_move _ rfl (.bool false) rfl) ?_
  go_frame
  refine ls_skip_g (some 25) rfl rfl ?_
  go_frame
  refine ls_skip_g (some 26) rfl rfl ?_
  go_frame
  refine ls_skip_g (some 27) rfl rfl ?_
  go_frame
  refine ls_skip_g (some 28) rfl rfl ?_
  go_frame
  refine ls_skip_g (some 29) rfl rfl ?_
  go_frame
  refine ls_ex (some 30) (.bool false) rfl rfl (exec_pick _ _ _ rfl false rfl (.bool false) rfl) ?_
  go_frame
  refine ls_ex (some 6) (.bool false) rfl rfl (exec_assign _ rfl (.bool false) rfl) ?_
  go_frame
  refine wpList_nil ?_
  go_wp2_with fail
  go_ret
  exact ⟨by rw [Hr.out]; rfl, hB⟩
set_option maxHeartbeats 4000000 in
theorem isStep_3 (p m l r f : Int) (w : World) (hp : 2 ≤ p ∧ p ≤ 5) (hl : inB l m = true) (hr : inB r m = true) (hn : (l != r) = false) :
    Calls Try.prog 39 #[.int .i64 p, .int .i64 m, .agg #[.int .i64 l, .int .i64 r, .int .i64 f]] w (fun e w' => e = .returned (.bool (stepB p m [l, r, f])) ∧ Below w.heap.size w w') := by
  have hB := Below.refl w.heap.size w
  have _u0 := hp
  clear _u0
  have Hr : Hid (stepB p m [l, r, f] = false) := Lib.hid (by rw [stepB_eq, hl, hr, hn]; simp)
  have HL := Lib.hid hl
  have HR := Lib.hid hr
  have HN := Lib.hid hn
  clear hl hr hn
  go_enter Try.func39, Try.ntmps39
  go_upto_region 0 with (fail)
  refine wp_region_lit ?_
  refine ls_op rfl (fun K' hK' => ?_)
  have lz1 := hB.size
  refine wp_new (some 5) rfl (exec_box 57 _ rfl (#[.int .i64 l, .int .i64 r, .int .i64 f]) rfl) (fun Wz2 nnz3 => ?_)
  have bz4 := nnz3.below (Below.refl _ _) (Nat.le_refl _)
  replace hB := below_after hB bz4
  have hz5 : At Wz2 w.heap.size (.cells #[.int .i64 l, .int .i64 r, .int .i64 f] 57 (0, 0)) := nnz3.at_
  refine hK' _ _ ?_
  clear hK' K' nnz3 bz4
  go_frame
  refine ls_ex (some 6) (.bool false) rfl rfl (exec_assign _ rfl (.bool false) rfl) ?_
  go_frame
  refine wpList_nil ?_
  go_upto_region 1 with (fail)
  refine wp_region_lit ?_
  refine ls_ex (some 7) (.pointer (some ⟨w.heap.size, 0, none⟩)) rfl rfl (exec_fieldAddr 57 _ 0 rfl _ (by kernel_rfl)) ?_
  go_frame
  refine ls_ex (some 8) (.int .i64 l) rfl rfl (exec_load_one 2 _ rfl w.heap.size 0 rfl (.int .i64 l) _ Try.underlying2 rfl (hz5.at_ 0)) ?_
  go_frame
  refine ls_ex (some 9) (.int .i64 m) rfl rfl (exec_move _ rfl (.int .i64 m) rfl) ?_
  go_frame
  refine ls_op rfl (fun K' hK' => ?_)
  have lz8 := hB.size
  have lz9 := hz5.lt
  refine wp_call2 (some 10) rfl 53 _ _ _ rfl (fun args w => by kernel_rfl) _ _ rfl rfl _ (isIndex_c l m _) (fun e Wz6 h => ?_)
  obtain ⟨rfl, rfl⟩ := h
  rw [HL.out]
  refine ⟨_, rfl, ?_⟩
  refine hK' _ _ ?_
  clear hK' K'
  go_frame
  refine ls_ex (some 11) (.bool true) rfl rfl (exec_move _ rfl (.bool true) rfl) ?_
  go_frame
  refine ls_ex_g (some 12) (.pointer (some ⟨w.heap.size, 1, none⟩)) rfl rfl (exec_fieldAddr 57 _ 1 rfl _ (by kernel_rfl)) ?_
  go_frame
  refine ls_ex_g (some 13) (.int .i64 r) rfl rfl (exec_load_one 2 _ rfl w.heap.size 1 rfl (.int .i64 r) _ Try.underlying2 rfl (hz5.at_ 1)) ?_
  go_frame
  refine ls_ex_g (some 14) (.int .i64 m) rfl rfl (exec_move _ rfl (.int .i64 m) rfl) ?_
  go_frame
  refine ls_op_g rfl (fun K' hK' => ?_)
  have lz12 := hB.size
  have lz13 := hz5.lt
  refine wp_call2 (some 15) rfl 53 _ _ _ rfl (fun args w => by kernel_rfl) _ _ rfl rfl _ (isIndex_c r m _) (fun e Wz10 h => ?_)
  obtain ⟨rfl, rfl⟩ := h
  rw [HR.out]
  refine ⟨_, rfl, ?_⟩
  refine hK' _ _ ?_
  clear hK' K'
  go_frame
  refine ls_ex (some 16) (.bool true) rfl rfl (exec_pick _ _ _ rfl true rfl (.bool true) rfl) ?_
  go_frame
  refine ls_ex (some 17) (.bool true) rfl rfl (exec_move _ rfl (.bool true) rfl) ?_
  go_frame
  refine ls_ex_g (some 18) (.pointer (some ⟨w.heap.size, 0, none⟩)) rfl rfl (exec_fieldAddr 57 _ 0 rfl _ (by kernel_rfl)) ?_
  go_frame
  refine ls_ex_g (some 19) (.int .i64 l) rfl rfl (exec_load_one 2 _ rfl w.heap.size 0 rfl (.int .i64 l) _ Try.underlying2 rfl (hz5.at_ 0)) ?_
  go_frame
  refine ls_ex_g (some 20) (.pointer (some ⟨w.heap.size, 1, none⟩)) rfl rfl (exec_fieldAddr 57 _ 1 rfl _ (by kernel_rfl)) ?_
  go_frame
  refine ls_ex_g (some 21) (.int .i64 r) rfl rfl (exec_load_one 2 _ rfl w.heap.size 1 rfl (.int .i64 r) _ Try.underlying2 rfl (hz5.at_ 1)) ?_
  go_frame
  refine ls_ex_g (some 22) (.bool false) rfl rfl (exec_neq _ _ _ _ rfl l r rfl rfl false HN.out) ?_
  go_frame
  refine ls_ex (some 23) (.bool false) rfl rfl (exec_pick _ _ _ rfl true rfl (.bool false) rfl) ?_
  go_frame
  refine ls_ex (some 24) (.bool false) rfl rfl (exec_move _ rfl (.bool false) rfl) ?_
  go_frame
  refine ls_skip_g (some 25) rfl rfl ?_
  go_frame
  refine ls_skip_g (some 26) rfl rfl ?_
  go_frame
  refine ls_skip_g (some 27) rfl rfl ?_
  go_frame
  refine ls_skip_g (some 28) rfl rfl ?_
  go_frame
  refine ls_skip_g (some 29) rfl rfl ?_
  go_frame
  refine ls_ex (some 30) (.bool false) rfl rfl (exec_pick _ _ _ rfl false rfl (.bool false) rfl) ?_
  go_frame
  refine ls_ex (some 6) (.bool false) rfl rfl (exec_assign _ rfl (.bool false) rfl) ?_
  go_frame
  refine wpList_nil ?_
  go_wp2_with fail
  go_ret
  exact ⟨by rw [Hr.out]; rfl, hB⟩
set_option maxHeartbeats 4000000 in
theorem isStep_4 (p m l r f : Int) (w : World) (hp : 2 ≤ p ∧ p ≤ 5) (hl : inB l m = true) (hr : inB r m = true) (hn : (l != r) = true) (hf : (decide (1 ≤ f) && decide (f ≤ p - 1)) = false) :
    Calls Try.prog 39 #[.int .i64 p, .int .i64 m, .agg #[.int .i64 l, .int .i64 r, .int .i64 f]] w (fun e w' => e = .returned (.bool (stepB p m [l, r, f])) ∧ Below w.heap.size w w') := by
  have hB := Below.refl w.heap.size w
  have Hr : Hid (stepB p m [l, r, f] = false) := Lib.hid (by rw [stepB_eq, hl, hr, hn, hf]; simp)
  have HL := Lib.hid hl
  have HR := Lib.hid hr
  have HN := Lib.hid hn
  have HF := Lib.hid hf
  clear hl hr hn hf
  go_enter Try.func39, Try.ntmps39
  go_upto_region 0 with (fail)
  refine wp_region_lit ?_
  refine ls_op rfl (fun K' hK' => ?_)
  have lz1 := hB.size
  refine wp_new (some 5) rfl (exec_box 57 _ rfl (#[.int .i64 l, .int .i64 r, .int .i64 f]) rfl) (fun Wz2 nnz3 => ?_)
  have bz4 := nnz3.below (Below.refl _ _) (Nat.le_refl _)
  replace hB := below_after hB bz4
  have hz5 : At Wz2 w.heap.size (.cells #[.int .i64 l, .int .i64 r, .int .i64 f] 57 (0, 0)) := nnz3.at_
  refine hK' _ _ ?_
  clear hK' K' nnz3 bz4
  go_frame
  refine ls_ex (some 6) (.bool false) rfl rfl (exec_assign _ rfl (.bool false) rfl) ?_
  go_frame
  refine wpList_nil ?_
  go_upto_region 1 with (fail)
  refine wp_region_lit ?_
  refine ls_ex (some 7) (.pointer (some ⟨w.heap.size, 0, none⟩)) rfl rfl (exec_fieldAddr 57 _ 0 rfl _ (by kernel_rfl)) ?_
  go_frame
  refine ls_ex (some 8) (.int .i64 l) rfl rfl (exec_load_one 2 _ rfl w.heap.size 0 rfl (.int .i64 l) _ Try.underlying2 rfl (hz5.at_ 0)) ?_
  go_frame
  refine ls_ex (some 9) (.int .i64 m) rfl rfl (exec_move _ rfl (.int .i64 m) rfl) ?_
  go_frame
  refine ls_op rfl (fun K' hK' => ?_)
  have lz8 := hB.size
  have lz9 := hz5.lt
  refine wp_call2 (some 10) rfl 53 _ _ _ rfl (fun args w => by kernel_rfl) _ _ rfl rfl _ (isIndex_c l m _) (fun e Wz6 h => ?_)
  obtain ⟨rfl, rfl⟩ := h
  rw [HL.out]
  refine ⟨_, rfl, ?_⟩
  refine hK' _ _ ?_
  clear hK' K'
  go_frame
  refine ls_ex (some 11) (.bool true) rfl rfl (exec_move _ rfl (.bool true) rfl) ?_
  go_frame
  refine ls_ex_g (some 12) (.pointer (some ⟨w.heap.size, 1, none⟩)) rfl rfl (exec_fieldAddr 57 _ 1 rfl _ (by kernel_rfl)) ?_
  go_frame
  refine ls_ex_g (some 13) (.int .i64 r) rfl rfl (exec_load_one 2 _ rfl w.heap.size 1 rfl (.int .i64 r) _ Try.underlying2 rfl (hz5.at_ 1)) ?_
  go_frame
  refine ls_ex_g (some 14) (.int .i64 m) rfl rfl (exec_move _ rfl (.int .i64 m) rfl) ?_
  go_frame
  refine ls_op_g rfl (fun K' hK' => ?_)
  have lz12 := hB.size
  have lz13 := hz5.lt
  refine wp_call2 (some 15) rfl 53 _ _ _ rfl (fun args w => by kernel_rfl) _ _ rfl rfl _ (isIndex_c r m _) (fun e Wz10 h => ?_)
  obtain ⟨rfl, rfl⟩ := h
  rw [HR.out]
  refine ⟨_, rfl, ?_⟩
  refine hK' _ _ ?_
  clear hK' K'
  go_frame
  refine ls_ex (some 16) (.bool true) rfl rfl (exec_pick _ _ _ rfl true rfl (.bool true) rfl) ?_
  go_frame
  refine ls_ex (some 17) (.bool true) rfl rfl (exec_move _ rfl (.bool true) rfl) ?_
  go_frame
  refine ls_ex_g (some 18) (.pointer (some ⟨w.heap.size, 0, none⟩)) rfl rfl (exec_fieldAddr 57 _ 0 rfl _ (by kernel_rfl)) ?_
  go_frame
  refine ls_ex_g (some 19) (.int .i64 l) rfl rfl (exec_load_one 2 _ rfl w.heap.size 0 rfl (.int .i64 l) _ Try.underlying2 rfl (hz5.at_ 0)) ?_
  go_frame
  refine ls_ex_g (some 20) (.pointer (some ⟨w.heap.size, 1, none⟩)) rfl rfl (exec_fieldAddr 57 _ 1 rfl _ (by kernel_rfl)) ?_
  go_frame
  refine ls_ex_g (some 21) (.int .i64 r) rfl rfl (exec_load_one 2 _ rfl w.heap.size 1 rfl (.int .i64 r) _ Try.underlying2 rfl (hz5.at_ 1)) ?_
  go_frame
  refine ls_ex_g (some 22) (.bool true) rfl rfl (exec_neq _ _ _ _ rfl l r rfl rfl true HN.out) ?_
  go_frame
  refine ls_ex (some 23) (.bool true) rfl rfl (exec_pick _ _ _ rfl true rfl (.bool true) rfl) ?_
  go_frame
  refine ls_ex (some 24) (.bool true) rfl rfl (exec_move _ rfl (.bool true) rfl) ?_
  go_frame
  refine ls_ex_g (some 25) (.pointer (some ⟨w.heap.size, 2, none⟩)) rfl rfl (exec_fieldAddr 57 _ 2 rfl _ (by kernel_rfl)) ?_
  go_frame
  refine ls_ex_g (some 26) (.int .i64 f) rfl rfl (exec_load_one 2 _ rfl w.heap.size 2 rfl (.int .i64 f) _ Try.underlying2 rfl (hz5.at_ 2)) ?_
  go_frame
  refine ls_ex_g (some 27) (.int .i64 p) rfl rfl (exec_move _ rfl (.int .i64 p) rfl) ?_
  go_frame
  refine ls_ex_g (some 28) (.int .i64 (p - 1)) rfl rfl (exec_sub _ _ _ _ rfl p 1 (p - 1) rfl rfl (IntWalk.i64_in _ (by omega))) ?_
  go_frame
  refine ls_op_g rfl (fun K' hK' => ?_)
  have lz16 := hB.size
  have lz17 := hz5.lt
  refine wp_call3 (some 29) rfl 32 _ _ _ _ rfl (fun args w => by kernel_rfl) _ _ _ rfl rfl rfl _ (isBetween_c 1 f (p - 1) _) (fun e Wz14 h => ?_)
  obtain ⟨rfl, rfl⟩ := h
  rw [HF.out]
  refine ⟨_, rfl, ?_⟩
  refine hK' _ _ ?_
  clear hK' K'
  go_frame
  refine ls_ex (some 30) (.bool false) rfl rfl (exec_pick _ _ _ rfl true rfl (.bool false) rfl) ?_
  go_frame
  refine ls_ex (some 6) (.bool false) rfl rfl (exec_assign _ rfl (.bool false) rfl) ?_
  go_frame
  refine wpList_nil ?_
  go_wp2_with fail
  go_ret
  exact ⟨by rw [Hr.out]; rfl, hB⟩
set_option maxHeartbeats 4000000 in
theorem isStep_5 (p m l r f : Int) (w : World) (hp : 2 ≤ p ∧ p ≤ 5) (hl : inB l m = true) (hr : inB r m = true) (hn : (l != r) = true) (hf : (decide (1 ≤ f) && decide (f ≤ p - 1)) = true) :
    Calls Try.prog 39 #[.int .i64 p, .int .i64 m, .agg #[.int .i64 l, .int .i64 r, .int .i64 f]] w (fun e w' => e = .returned (.bool (stepB p m [l, r, f])) ∧ Below w.heap.size w w') := by
  have hB := Below.refl w.heap.size w
  have Hr : Hid (stepB p m [l, r, f] = true) := Lib.hid (by rw [stepB_eq, hl, hr, hn, hf]; rfl)
  have HL := Lib.hid hl
  have HR := Lib.hid hr
  have HN := Lib.hid hn
  have HF := Lib.hid hf
  clear hl hr hn hf
  go_enter Try.func39, Try.ntmps39
  go_upto_region 0 with (fail)
  refine wp_region_lit ?_
  refine ls_op rfl (fun K' hK' => ?_)
  have lz1 := hB.size
  refine wp_new (some 5) rfl (exec_box 57 _ rfl (#[.int .i64 l, .int .i64 r, .int .i64 f]) rfl) (fun Wz2 nnz3 => ?_)
  have bz4 := nnz3.below (Below.refl _ _) (Nat.le_refl _)
  replace hB := below_after hB bz4
  have hz5 : At Wz2 w.heap.size (.cells #[.int .i64 l, .int .i64 r, .int .i64 f] 57 (0, 0)) := nnz3.at_
  refine hK' _ _ ?_
  clear hK' K' nnz3 bz4
  go_frame
  refine ls_ex (some 6) (.bool false) rfl rfl (exec_assign _ rfl (.bool false) rfl) ?_
  go_frame
  refine wpList_nil ?_
  go_upto_region 1 with (fail)
  refine wp_region_lit ?_
  refine ls_ex (some 7) (.pointer (some ⟨w.heap.size, 0, none⟩)) rfl rfl (exec_fieldAddr 57 _ 0 rfl _ (by kernel_rfl)) ?_
  go_frame
  refine ls_ex (some 8) (.int .i64 l) rfl rfl (exec_load_one 2 _ rfl w.heap.size 0 rfl (.int .i64 l) _ Try.underlying2 rfl (hz5.at_ 0)) ?_
  go_frame
  refine ls_ex (some 9) (.int .i64 m) rfl rfl (exec_move _ rfl (.int .i64 m) rfl) ?_
  go_frame
  refine ls_op rfl (fun K' hK' => ?_)
  have lz8 := hB.size
  have lz9 := hz5.lt
  refine wp_call2 (some 10) rfl 53 _ _ _ rfl (fun args w => by kernel_rfl) _ _ rfl rfl _ (isIndex_c l m _) (fun e Wz6 h => ?_)
  obtain ⟨rfl, rfl⟩ := h
  rw [HL.out]
  refine ⟨_, rfl, ?_⟩
  refine hK' _ _ ?_
  clear hK' K'
  go_frame
  refine ls_ex (some 11) (.bool true) rfl rfl (exec_move _ rfl (.bool true) rfl) ?_
  go_frame
  refine ls_ex_g (some 12) (.pointer (some ⟨w.heap.size, 1, none⟩)) rfl rfl (exec_fieldAddr 57 _ 1 rfl _ (by kernel_rfl)) ?_
  go_frame
  refine ls_ex_g (some 13) (.int .i64 r) rfl rfl (exec_load_one 2 _ rfl w.heap.size 1 rfl (.int .i64 r) _ Try.underlying2 rfl (hz5.at_ 1)) ?_
  go_frame
  refine ls_ex_g (some 14) (.int .i64 m) rfl rfl (exec_move _ rfl (.int .i64 m) rfl) ?_
  go_frame
  refine ls_op_g rfl (fun K' hK' => ?_)
  have lz12 := hB.size
  have lz13 := hz5.lt
  refine wp_call2 (some 15) rfl 53 _ _ _ rfl (fun args w => by kernel_rfl) _ _ rfl rfl _ (isIndex_c r m _) (fun e Wz10 h => ?_)
  obtain ⟨rfl, rfl⟩ := h
  rw [HR.out]
  refine ⟨_, rfl, ?_⟩
  refine hK' _ _ ?_
  clear hK' K'
  go_frame
  refine ls_ex (some 16) (.bool true) rfl rfl (exec_pick _ _ _ rfl true rfl (.bool true) rfl) ?_
  go_frame
  refine ls_ex (some 17) (.bool true) rfl rfl (exec_move _ rfl (.bool true) rfl) ?_
  go_frame
  refine ls_ex_g (some 18) (.pointer (some ⟨w.heap.size, 0, none⟩)) rfl rfl (exec_fieldAddr 57 _ 0 rfl _ (by kernel_rfl)) ?_
  go_frame
  refine ls_ex_g (some 19) (.int .i64 l) rfl rfl (exec_load_one 2 _ rfl w.heap.size 0 rfl (.int .i64 l) _ Try.underlying2 rfl (hz5.at_ 0)) ?_
  go_frame
  refine ls_ex_g (some 20) (.pointer (some ⟨w.heap.size, 1, none⟩)) rfl rfl (exec_fieldAddr 57 _ 1 rfl _ (by kernel_rfl)) ?_
  go_frame
  refine ls_ex_g (some 21) (.int .i64 r) rfl rfl (exec_load_one 2 _ rfl w.heap.size 1 rfl (.int .i64 r) _ Try.underlying2 rfl (hz5.at_ 1)) ?_
  go_frame
  refine ls_ex_g (some 22) (.bool true) rfl rfl (exec_neq _ _ _ _ rfl l r rfl rfl true HN.out) ?_
  go_frame
  refine ls_ex (some 23) (.bool true) rfl rfl (exec_pick _ _ _ rfl true rfl (.bool true) rfl) ?_
  go_frame
  refine ls_ex (some 24) (.bool true) rfl rfl (exec_move _ rfl (.bool true) rfl) ?_
  go_frame
  refine ls_ex_g (some 25) (.pointer (some ⟨w.heap.size, 2, none⟩)) rfl rfl (exec_fieldAddr 57 _ 2 rfl _ (by kernel_rfl)) ?_
  go_frame
  refine ls_ex_g (some 26) (.int .i64 f) rfl rfl (exec_load_one 2 _ rfl w.heap.size 2 rfl (.int .i64 f) _ Try.underlying2 rfl (hz5.at_ 2)) ?_
  go_frame
  refine ls_ex_g (some 27) (.int .i64 p) rfl rfl (exec_move _ rfl (.int .i64 p) rfl) ?_
  go_frame
  refine ls_ex_g (some 28) (.int .i64 (p - 1)) rfl rfl (exec_sub _ _ _ _ rfl p 1 (p - 1) rfl rfl (IntWalk.i64_in _ (by omega))) ?_
  go_frame
  refine ls_op_g rfl (fun K' hK' => ?_)
  have lz16 := hB.size
  have lz17 := hz5.lt
  refine wp_call3 (some 29) rfl 32 _ _ _ _ rfl (fun args w => by kernel_rfl) _ _ _ rfl rfl rfl _ (isBetween_c 1 f (p - 1) _) (fun e Wz14 h => ?_)
  obtain ⟨rfl, rfl⟩ := h
  rw [HF.out]
  refine ⟨_, rfl, ?_⟩
  refine hK' _ _ ?_
  clear hK' K'
  go_frame
  refine ls_ex (some 30) (.bool true) rfl rfl (exec_pick _ _ _ rfl true rfl (.bool true) rfl) ?_
  go_frame
  refine ls_ex (some 6) (.bool true) rfl rfl (exec_assign _ rfl (.bool true) rfl) ?_
  go_frame
  refine wpList_nil ?_
  go_wp2_with fail
  go_ret
  exact ⟨by rw [Hr.out]; rfl, hB⟩
theorem isStep_c (p m l r f : Int) (w : World) (hp : 2 ≤ p ∧ p ≤ 5) : Calls Try.prog 39 #[.int .i64 p, .int .i64 m, .agg #[.int .i64 l, .int .i64 r, .int .i64 f]] w (fun e w' => e = .returned (.bool (stepB p m [l, r, f])) ∧ Below w.heap.size w w') := by
  cases hl : inB l m with
  | false => exact isStep_1 p m l r f w hp hl
  | true =>
    cases hr : inB r m with
    | false => exact isStep_2 p m l r f w hp hl hr
    | true =>
      cases hn : (l != r) with
      | false => exact isStep_3 p m l r f w hp hl hr hn
      | true =>
        cases hf : (decide (1 ≤ f) && decide (f ≤ p - 1)) with
        | false => exact isStep_4 p m l r f w hp hl hr hn hf
        | true => exact isStep_5 p m l r f w hp hl hr hn hf
set_option maxHeartbeats 4000000 in
theorem isOutput_1 (p m v f : Int) (w : World) (hp : 2 ≤ p ∧ p ≤ 5) (hm : 1 ≤ m) (hz : (v == 0 && f == 0) = true) :
    Calls Try.prog 42 #[.int .i64 p, .int .i64 m, .agg #[.int .i64 v, .int .i64 f]] w (fun e w' => e = .returned (.bool (outB p m [v, f])) ∧ Below w.heap.size w w') := by
  have hB := Below.refl w.heap.size w
  have Hr : Hid (outB p m [v, f] = true) := Lib.hid (by rw [outB_eq hp hm, hz]; rfl)
  have HZ := Lib.hid hz
  clear hz
  go_enter Try.func42, Try.ntmps42
  go_upto_region 0 with (fail)
  refine wp_region_lit ?_
  refine ls_op rfl (fun K' hK' => ?_)
  have lz1 := hB.size
  refine wp_new (some 5) rfl (exec_box 61 _ rfl (#[.int .i64 v, .int .i64 f]) rfl) (fun Wz2 nnz3 => ?_)
  have bz4 := nnz3.below (Below.refl _ _) (Nat.le_refl _)
  replace hB := below_after hB bz4
  have hz5 : At Wz2 w.heap.size (.cells #[.int .i64 v, .int .i64 f] 61 (0, 0)) := nnz3.at_
  refine hK' _ _ ?_
  clear hK' K' nnz3 bz4
  go_frame
  refine ls_ex (some 6) (.bool false) rfl rfl (exec_assign _ rfl (.bool false) rfl) ?_
  go_frame
  refine wpList_nil ?_
  go_upto_region 1 with (fail)
  refine wp_region_lit ?_
  refine ls_ex (some 7) (.agg #[.int .i64 v, .int .i64 f]) rfl rfl (exec_load_all 61 _ rfl w.heap.size rfl _ _ _ hz5 Try.underlying61 rfl 2 (by kernel_rfl) rfl) ?_
  go_frame
  refine ls_ex (some 8) (.agg #[.int .i64 0, .int .i64 0]) rfl rfl (exec_build_nil 61 rfl _ (by kernel_rfl)) ?_
  go_frame
  refine ls_ex (some 9) (.bool true) rfl rfl (exec_eql_out _ _ rfl v f 0 0 rfl rfl true HZ.out) ?_
  go_frame
  refine ls_ex (some 10) (.bool true) rfl rfl (exec_move _ rfl (.bool true) rfl) ?_
  go_frame
  refine ls_skip_g (some 11) rfl rfl ?_
  go_frame
  refine ls_skip_g (some 12) rfl rfl ?_
  go_frame
  refine ls_skip_g (some 13) rfl rfl ?_
  go_frame
  refine ls_skip_g (some 14) rfl rfl ?_
  go_frame
  refine ls_skip_g (some 15) rfl rfl ?_
  go_frame
  refine ls_skip_g (some 16) rfl rfl ?_
  go_frame
  refine ls_skip_g (some 17) rfl rfl ?_
  go_frame
  refine ls_skip_g (some 18) rfl rfl ?_
  go_frame
  refine ls_skip_g (some 19) rfl rfl ?_
  go_frame
  refine ls_skip_g (some 20) rfl rfl ?_
  go_frame
  refine ls_skip_g (some 21) rfl rfl ?_
  go_frame
  refine ls_ex (some 22) (.bool true) rfl rfl (exec_pick _ _ _ rfl true rfl (.bool true) rfl) ?_
  go_frame
  refine ls_ex (some 6) (.bool true) rfl rfl (exec_assign _ rfl (.bool true) rfl) ?_
  go_frame
  refine wpList_nil ?_
  go_wp2_with fail
  go_ret
  exact ⟨by rw [Hr.out]; rfl, hB⟩
set_option maxHeartbeats 4000000 in
theorem isOutput_2 (p m v f : Int) (w : World) (hp : 2 ≤ p ∧ p ≤ 5) (hm : 1 ≤ m) (hz : (v == 0 && f == 0) = false) (hv : inB v m = false) :
    Calls Try.prog 42 #[.int .i64 p, .int .i64 m, .agg #[.int .i64 v, .int .i64 f]] w (fun e w' => e = .returned (.bool (outB p m [v, f])) ∧ Below w.heap.size w w') := by
  have hB := Below.refl w.heap.size w
  have Hr : Hid (outB p m [v, f] = false) := Lib.hid (by rw [outB_eq hp hm, hz, hv]; simp)
  have HZ := Lib.hid hz
  have HV := Lib.hid hv
  clear hz hv
  go_enter Try.func42, Try.ntmps42
  go_upto_region 0 with (fail)
  refine wp_region_lit ?_
  refine ls_op rfl (fun K' hK' => ?_)
  have lz1 := hB.size
  refine wp_new (some 5) rfl (exec_box 61 _ rfl (#[.int .i64 v, .int .i64 f]) rfl) (fun Wz2 nnz3 => ?_)
  have bz4 := nnz3.below (Below.refl _ _) (Nat.le_refl _)
  replace hB := below_after hB bz4
  have hz5 : At Wz2 w.heap.size (.cells #[.int .i64 v, .int .i64 f] 61 (0, 0)) := nnz3.at_
  refine hK' _ _ ?_
  clear hK' K' nnz3 bz4
  go_frame
  refine ls_ex (some 6) (.bool false) rfl rfl (exec_assign _ rfl (.bool false) rfl) ?_
  go_frame
  refine wpList_nil ?_
  go_upto_region 1 with (fail)
  refine wp_region_lit ?_
  refine ls_ex (some 7) (.agg #[.int .i64 v, .int .i64 f]) rfl rfl (exec_load_all 61 _ rfl w.heap.size rfl _ _ _ hz5 Try.underlying61 rfl 2 (by kernel_rfl) rfl) ?_
  go_frame
  refine ls_ex (some 8) (.agg #[.int .i64 0, .int .i64 0]) rfl rfl (exec_build_nil 61 rfl _ (by kernel_rfl)) ?_
  go_frame
  refine ls_ex (some 9) (.bool false) rfl rfl (exec_eql_out _ _ rfl v f 0 0 rfl rfl false HZ.out) ?_
  go_frame
  refine ls_ex (some 10) (.bool false) rfl rfl (exec_move _ rfl (.bool false) rfl) ?_
  go_frame
  refine ls_ex_g (some 11) (.pointer (some ⟨w.heap.size, 0, none⟩)) rfl rfl (exec_fieldAddr 61 _ 0 rfl _ (by kernel_rfl)) ?_
  go_frame
  refine ls_ex_g (some 12) (.int .i64 v) rfl rfl (exec_load_one 2 _ rfl w.heap.size 0 rfl (.int .i64 v) _ Try.underlying2 rfl (hz5.at_ 0)) ?_
  go_frame
  refine ls_ex_g (some 13) (.int .i64 m) rfl rfl (exec_move _ rfl (.int .i64 m) rfl) ?_
  go_frame
  refine ls_op_g rfl (fun K' hK' => ?_)
  have lz8 := hB.size
  have lz9 := hz5.lt
  refine wp_call2 (some 14) rfl 53 _ _ _ rfl (fun args w => by kernel_rfl) _ _ rfl rfl _ (isIndex_c v m _) (fun e Wz6 h => ?_)
  obtain ⟨rfl, rfl⟩ := h
  rw [HV.out]
  refine ⟨_, rfl, ?_⟩
  refine hK' _ _ ?_
  clear hK' K'
  go_frame
  refine ls_ex_g (some 15) (.bool false) rfl rfl (exec_move _ rfl (.bool false) rfl) ?_
  go_frame
  refine ls_skip_g (some 16) rfl rfl ?_
  go_frame
  refine ls_skip_g (some 17) rfl rfl ?_
  go_frame
  refine ls_skip_g (some 18) rfl rfl ?_
  go_frame
  refine ls_skip_g (some 19) rfl rfl ?_
  go_frame
  refine ls_skip_g (some 20) rfl rfl ?_
  go_frame
  refine ls_ex_g (some 21) (.bool false) rfl rfl (exec_pick _ _ _ rfl false rfl (.bool false) rfl) ?_
  go_frame
  refine ls_ex (some 22) (.bool false) rfl rfl (exec_pick _ _ _ rfl false rfl (.bool false) rfl) ?_
  go_frame
  refine ls_ex (some 6) (.bool false) rfl rfl (exec_assign _ rfl (.bool false) rfl) ?_
  go_frame
  refine wpList_nil ?_
  go_wp2_with fail
  go_ret
  exact ⟨by rw [Hr.out]; rfl, hB⟩
set_option maxHeartbeats 4000000 in
theorem isOutput_3 (p m v f : Int) (w : World) (hp : 2 ≤ p ∧ p ≤ 5) (hm : 1 ≤ m) (hz : (v == 0 && f == 0) = false) (hv : inB v m = true) (hf : (decide (1 ≤ f) && decide (f ≤ p - 1)) = false) :
    Calls Try.prog 42 #[.int .i64 p, .int .i64 m, .agg #[.int .i64 v, .int .i64 f]] w (fun e w' => e = .returned (.bool (outB p m [v, f])) ∧ Below w.heap.size w w') := by
  have hB := Below.refl w.heap.size w
  have Hr : Hid (outB p m [v, f] = false) := Lib.hid (by rw [outB_eq hp hm, hz, hv, hf]; simp)
  have HZ := Lib.hid hz
  have HV := Lib.hid hv
  have HF := Lib.hid hf
  clear hz hv hf
  go_enter Try.func42, Try.ntmps42
  go_upto_region 0 with (fail)
  refine wp_region_lit ?_
  refine ls_op rfl (fun K' hK' => ?_)
  have lz1 := hB.size
  refine wp_new (some 5) rfl (exec_box 61 _ rfl (#[.int .i64 v, .int .i64 f]) rfl) (fun Wz2 nnz3 => ?_)
  have bz4 := nnz3.below (Below.refl _ _) (Nat.le_refl _)
  replace hB := below_after hB bz4
  have hz5 : At Wz2 w.heap.size (.cells #[.int .i64 v, .int .i64 f] 61 (0, 0)) := nnz3.at_
  refine hK' _ _ ?_
  clear hK' K' nnz3 bz4
  go_frame
  refine ls_ex (some 6) (.bool false) rfl rfl (exec_assign _ rfl (.bool false) rfl) ?_
  go_frame
  refine wpList_nil ?_
  go_upto_region 1 with (fail)
  refine wp_region_lit ?_
  refine ls_ex (some 7) (.agg #[.int .i64 v, .int .i64 f]) rfl rfl (exec_load_all 61 _ rfl w.heap.size rfl _ _ _ hz5 Try.underlying61 rfl 2 (by kernel_rfl) rfl) ?_
  go_frame
  refine ls_ex (some 8) (.agg #[.int .i64 0, .int .i64 0]) rfl rfl (exec_build_nil 61 rfl _ (by kernel_rfl)) ?_
  go_frame
  refine ls_ex (some 9) (.bool false) rfl rfl (exec_eql_out _ _ rfl v f 0 0 rfl rfl false HZ.out) ?_
  go_frame
  refine ls_ex (some 10) (.bool false) rfl rfl (exec_move _ rfl (.bool false) rfl) ?_
  go_frame
  refine ls_ex_g (some 11) (.pointer (some ⟨w.heap.size, 0, none⟩)) rfl rfl (exec_fieldAddr 61 _ 0 rfl _ (by kernel_rfl)) ?_
  go_frame
  refine ls_ex_g (some 12) (.int .i64 v) rfl rfl (exec_load_one 2 _ rfl w.heap.size 0 rfl (.int .i64 v) _ Try.underlying2 rfl (hz5.at_ 0)) ?_
  go_frame
  refine ls_ex_g (some 13) (.int .i64 m) rfl rfl (exec_move _ rfl (.int .i64 m) rfl) ?_
  go_frame
  refine ls_op_g rfl (fun K' hK' => ?_)
  have lz8 := hB.size
  have lz9 := hz5.lt
  refine wp_call2 (some 14) rfl 53 _ _ _ rfl (fun args w => by kernel_rfl) _ _ rfl rfl _ (isIndex_c v m _) (fun e Wz6 h => ?_)
  obtain ⟨rfl, rfl⟩ := h
  rw [HV.out]
  refine ⟨_, rfl, ?_⟩
  refine hK' _ _ ?_
  clear hK' K'
  go_frame
  refine ls_ex_g (some 15) (.bool true) rfl rfl (exec_move _ rfl (.bool true) rfl) ?_
  go_frame
  refine ls_ex_g (some 16) (.pointer (some ⟨w.heap.size, 1, none⟩)) rfl rfl (exec_fieldAddr 61 _ 1 rfl _ (by kernel_rfl)) ?_
  go_frame
  refine ls_ex_g (some 17) (.int .i64 f) rfl rfl (exec_load_one 2 _ rfl w.heap.size 1 rfl (.int .i64 f) _ Try.underlying2 rfl (hz5.at_ 1)) ?_
  go_frame
  refine ls_ex_g (some 18) (.int .i64 p) rfl rfl (exec_move _ rfl (.int .i64 p) rfl) ?_
  go_frame
  refine ls_ex_g (some 19) (.int .i64 (p - 1)) rfl rfl (exec_sub _ _ _ _ rfl p 1 (p - 1) rfl rfl (IntWalk.i64_in _ (by omega))) ?_
  go_frame
  refine ls_op_g rfl (fun K' hK' => ?_)
  have lz12 := hB.size
  have lz13 := hz5.lt
  refine wp_call3 (some 20) rfl 32 _ _ _ _ rfl (fun args w => by kernel_rfl) _ _ _ rfl rfl rfl _ (isBetween_c 1 f (p - 1) _) (fun e Wz10 h => ?_)
  obtain ⟨rfl, rfl⟩ := h
  rw [HF.out]
  refine ⟨_, rfl, ?_⟩
  refine hK' _ _ ?_
  clear hK' K'
  go_frame
  refine ls_ex_g (some 21) (.bool false) rfl rfl (exec_pick _ _ _ rfl true rfl (.bool false) rfl) ?_
  go_frame
  refine ls_ex (some 22) (.bool false) rfl rfl (exec_pick _ _ _ rfl false rfl (.bool false) rfl) ?_
  go_frame
  refine ls_ex (some 6) (.bool false) rfl rfl (exec_assign _ rfl (.bool false) rfl) ?_
  go_frame
  refine wpList_nil ?_
  go_wp2_with fail
  go_ret
  exact ⟨by rw [Hr.out]; rfl, hB⟩
set_option maxHeartbeats 4000000 in
theorem isOutput_4 (p m v f : Int) (w : World) (hp : 2 ≤ p ∧ p ≤ 5) (hm : 1 ≤ m) (hz : (v == 0 && f == 0) = false) (hv : inB v m = true) (hf : (decide (1 ≤ f) && decide (f ≤ p - 1)) = true) :
    Calls Try.prog 42 #[.int .i64 p, .int .i64 m, .agg #[.int .i64 v, .int .i64 f]] w (fun e w' => e = .returned (.bool (outB p m [v, f])) ∧ Below w.heap.size w w') := by
  have hB := Below.refl w.heap.size w
  have Hr : Hid (outB p m [v, f] = true) := Lib.hid (by rw [outB_eq hp hm, hz, hv, hf]; rfl)
  have HZ := Lib.hid hz
  have HV := Lib.hid hv
  have HF := Lib.hid hf
  clear hz hv hf
  go_enter Try.func42, Try.ntmps42
  go_upto_region 0 with (fail)
  refine wp_region_lit ?_
  refine ls_op rfl (fun K' hK' => ?_)
  have lz1 := hB.size
  refine wp_new (some 5) rfl (exec_box 61 _ rfl (#[.int .i64 v, .int .i64 f]) rfl) (fun Wz2 nnz3 => ?_)
  have bz4 := nnz3.below (Below.refl _ _) (Nat.le_refl _)
  replace hB := below_after hB bz4
  have hz5 : At Wz2 w.heap.size (.cells #[.int .i64 v, .int .i64 f] 61 (0, 0)) := nnz3.at_
  refine hK' _ _ ?_
  clear hK' K' nnz3 bz4
  go_frame
  refine ls_ex (some 6) (.bool false) rfl rfl (exec_assign _ rfl (.bool false) rfl) ?_
  go_frame
  refine wpList_nil ?_
  go_upto_region 1 with (fail)
  refine wp_region_lit ?_
  refine ls_ex (some 7) (.agg #[.int .i64 v, .int .i64 f]) rfl rfl (exec_load_all 61 _ rfl w.heap.size rfl _ _ _ hz5 Try.underlying61 rfl 2 (by kernel_rfl) rfl) ?_
  go_frame
  refine ls_ex (some 8) (.agg #[.int .i64 0, .int .i64 0]) rfl rfl (exec_build_nil 61 rfl _ (by kernel_rfl)) ?_
  go_frame
  refine ls_ex (some 9) (.bool false) rfl rfl (exec_eql_out _ _ rfl v f 0 0 rfl rfl false HZ.out) ?_
  go_frame
  refine ls_ex (some 10) (.bool false) rfl rfl (exec_move _ rfl (.bool false) rfl) ?_
  go_frame
  refine ls_ex_g (some 11) (.pointer (some ⟨w.heap.size, 0, none⟩)) rfl rfl (exec_fieldAddr 61 _ 0 rfl _ (by kernel_rfl)) ?_
  go_frame
  refine ls_ex_g (some 12) (.int .i64 v) rfl rfl (exec_load_one 2 _ rfl w.heap.size 0 rfl (.int .i64 v) _ Try.underlying2 rfl (hz5.at_ 0)) ?_
  go_frame
  refine ls_ex_g (some 13) (.int .i64 m) rfl rfl (exec_move _ rfl (.int .i64 m) rfl) ?_
  go_frame
  refine ls_op_g rfl (fun K' hK' => ?_)
  have lz8 := hB.size
  have lz9 := hz5.lt
  refine wp_call2 (some 14) rfl 53 _ _ _ rfl (fun args w => by kernel_rfl) _ _ rfl rfl _ (isIndex_c v m _) (fun e Wz6 h => ?_)
  obtain ⟨rfl, rfl⟩ := h
  rw [HV.out]
  refine ⟨_, rfl, ?_⟩
  refine hK' _ _ ?_
  clear hK' K'
  go_frame
  refine ls_ex_g (some 15) (.bool true) rfl rfl (exec_move _ rfl (.bool true) rfl) ?_
  go_frame
  refine ls_ex_g (some 16) (.pointer (some ⟨w.heap.size, 1, none⟩)) rfl rfl (exec_fieldAddr 61 _ 1 rfl _ (by kernel_rfl)) ?_
  go_frame
  refine ls_ex_g (some 17) (.int .i64 f) rfl rfl (exec_load_one 2 _ rfl w.heap.size 1 rfl (.int .i64 f) _ Try.underlying2 rfl (hz5.at_ 1)) ?_
  go_frame
  refine ls_ex_g (some 18) (.int .i64 p) rfl rfl (exec_move _ rfl (.int .i64 p) rfl) ?_
  go_frame
  refine ls_ex_g (some 19) (.int .i64 (p - 1)) rfl rfl (exec_sub _ _ _ _ rfl p 1 (p - 1) rfl rfl (IntWalk.i64_in _ (by omega))) ?_
  go_frame
  refine ls_op_g rfl (fun K' hK' => ?_)
  have lz12 := hB.size
  have lz13 := hz5.lt
  refine wp_call3 (some 20) rfl 32 _ _ _ _ rfl (fun args w => by kernel_rfl) _ _ _ rfl rfl rfl _ (isBetween_c 1 f (p - 1) _) (fun e Wz10 h => ?_)
  obtain ⟨rfl, rfl⟩ := h
  rw [HF.out]
  refine ⟨_, rfl, ?_⟩
  refine hK' _ _ ?_
  clear hK' K'
  go_frame
  refine ls_ex_g (some 21) (.bool true) rfl rfl (exec_pick _ _ _ rfl true rfl (.bool true) rfl) ?_
  go_frame
  refine ls_ex (some 22) (.bool true) rfl rfl (exec_pick _ _ _ rfl false rfl (.bool true) rfl) ?_
  go_frame
  refine ls_ex (some 6) (.bool true) rfl rfl (exec_assign _ rfl (.bool true) rfl) ?_
  go_frame
  refine wpList_nil ?_
  go_wp2_with fail
  go_ret
  exact ⟨by rw [Hr.out]; rfl, hB⟩
theorem isOutput_c (p m v f : Int) (w : World) (hp : 2 ≤ p ∧ p ≤ 5) (hm : 1 ≤ m) : Calls Try.prog 42 #[.int .i64 p, .int .i64 m, .agg #[.int .i64 v, .int .i64 f]] w (fun e w' => e = .returned (.bool (outB p m [v, f])) ∧ Below w.heap.size w w') := by
  cases hz : (v == 0 && f == 0) with
  | true => exact isOutput_1 p m v f w hp hm hz
  | false =>
    cases hv : inB v m with
    | false => exact isOutput_2 p m v f w hp hm hz hv
    | true =>
      cases hf : (decide (1 ≤ f) && decide (f ≤ p - 1)) with
      | false => exact isOutput_3 p m v f w hp hm hz hv hf
      | true => exact isOutput_4 p m v f w hp hm hz hv hf
set_option maxHeartbeats 12800000 in
theorem l07Is_a (p n : Int) (As Ao : Option Addr) (cs co : Nat) (ss os : List (List Int)) (w : World) (hs : RdK 3 w As ss) (ho : RdK 2 w Ao os) (hns : ss.length ≤ 1048576) (hno : os.length ≤ 1048576) (hp : primeB p = false) :
    Calls Try.prog 35 #[.agg #[.int .i64 p, .int .i64 n, .slice As ss.length cs, .slice Ao os.length co]] w (fun e w' => e = .returned (.bool (progB p n ss os)) ∧ Below w.heap.size w w') := by
  have hB := Below.refl w.heap.size w
  have _u0 := hs
  have _u1 := ho
  have _u2 := hns
  have _u3 := hno
  clear _u0 _u1 _u2 _u3
  have HNo : Hid (progB p n ss os = false) := Lib.hid (by simp [progB, hp])
  have HP := Lib.hid hp
  clear hp
  go_enter Try.func35, Try.ntmps35
  go_upto_region 0 with (fail)
  refine wp_region_lit ?_
  refine ls_op rfl (fun K' hK' => ?_)
  have lz1 := hB.size
  refine wp_new (some 1) rfl (exec_box 36 _ rfl (#[.int .i64 p, .int .i64 n, .slice As ss.length cs, .slice Ao os.length co]) rfl) (fun Wz2 nnz3 => ?_)
  have bz4 := nnz3.below (Below.refl _ _) (Nat.le_refl _)
  replace hB := below_after hB bz4
  have hz5 : At Wz2 w.heap.size (.cells #[.int .i64 p, .int .i64 n, .slice As ss.length cs, .slice Ao os.length co] 36 (0, 0)) := nnz3.at_
  refine hK' _ _ ?_
  clear hK' K' nnz3 bz4
  go_frame
  refine ls_ex (some 2) (.bool false) rfl rfl (exec_assign _ rfl (.bool false) rfl) ?_
  go_frame
  refine wpList_nil ?_
  go_upto_region 1 with (fail)
  refine wp_region_lit ?_
  refine ls_ex (some 8) (.pointer (some ⟨w.heap.size, 0, none⟩)) rfl rfl (exec_fieldAddr 36 _ 0 rfl _ (by kernel_rfl)) ?_
  go_frame
  refine ls_ex (some 9) (.int .i64 p) rfl rfl (exec_load_one 2 _ rfl w.heap.size 0 rfl (.int .i64 p) _ Try.underlying2 rfl (hz5.at_ 0)) ?_
  go_frame
  refine ls_op rfl (fun K' hK' => ?_)
  have lz8 := hB.size
  have lz9 := hz5.lt
  refine wp_call1 (some 10) rfl 28 _ _ rfl (fun args w => by kernel_rfl) _ rfl _ (l01Prime_c p _) (fun e Wz6 h => ?_)
  obtain ⟨rfl, rfl⟩ := h
  rw [HP.out]
  refine ⟨_, rfl, ?_⟩
  refine hK' _ _ ?_
  clear hK' K'
  go_frame
  refine ls_ex (some 11) (.bool true) rfl rfl (exec_not _ _ rfl false rfl) ?_
  go_frame
  refine ls_ex (some 12) (.bool true) rfl rfl (exec_move _ rfl (.bool true) rfl) ?_
  go_frame
  refine ls_skip_g (some 13) rfl rfl ?_
  go_frame
  refine ls_skip_g (some 14) rfl rfl ?_
  go_frame
  refine ls_skip_g (some 15) rfl rfl ?_
  go_frame
  refine ls_skip_g (some 16) rfl rfl ?_
  go_frame
  refine ls_ex (some 17) (.bool true) rfl rfl (exec_pick _ _ _ rfl true rfl (.bool true) rfl) ?_
  go_frame
  refine ls_ex (some 18) (.bool true) rfl rfl (exec_move _ rfl (.bool true) rfl) ?_
  go_frame
  refine ls_skip_g (some 19) rfl rfl ?_
  go_frame
  refine ls_skip_g (some 20) rfl rfl ?_
  go_frame
  refine ls_skip_g (some 21) rfl rfl ?_
  go_frame
  refine ls_skip_g (some 22) rfl rfl ?_
  go_frame
  refine ls_ex (some 23) (.bool true) rfl rfl (exec_pick _ _ _ rfl true rfl (.bool true) rfl) ?_
  go_frame
  refine ls_ex (some 24) (.bool true) rfl rfl (exec_move _ rfl (.bool true) rfl) ?_
  go_frame
  refine ls_skip_g (some 25) rfl rfl ?_
  go_frame
  refine ls_skip_g (some 26) rfl rfl ?_
  go_frame
  refine ls_skip_g (some 27) rfl rfl ?_
  go_frame
  refine ls_skip_g (some 28) rfl rfl ?_
  go_frame
  refine ls_ex (some 29) (.bool true) rfl rfl (exec_pick _ _ _ rfl true rfl (.bool true) rfl) ?_
  go_frame
  refine ls_ex (some 30) (.bool true) rfl rfl (exec_move _ rfl (.bool true) rfl) ?_
  go_frame
  refine ls_skip_g (some 31) rfl rfl ?_
  go_frame
  refine ls_skip_g (some 32) rfl rfl ?_
  go_frame
  refine ls_skip_g (some 33) rfl rfl ?_
  go_frame
  refine ls_skip_g (some 34) rfl rfl ?_
  go_frame
  refine ls_ex (some 35) (.bool true) rfl rfl (exec_pick _ _ _ rfl true rfl (.bool true) rfl) ?_
  go_frame
  refine wpList_nil ?_
  go_upto_region 2 with (fail)
  refine wp_region_lit ?_
  refine ls_ex (some 2) (.bool false) rfl rfl (exec_assign _ rfl (.bool false) rfl) ?_
  go_frame
  refine wpList_nil ?_
  go_wp2_with fail
  go_ret
  exact ⟨by rw [HNo.out]; rfl, hB⟩
set_option maxHeartbeats 12800000 in
theorem l07Is_b (p n : Int) (As Ao : Option Addr) (cs co : Nat) (ss os : List (List Int)) (w : World) (hs : RdK 3 w As ss) (ho : RdK 2 w Ao os) (hns : ss.length ≤ 1048576) (hno : os.length ≤ 1048576) (hp : primeB p = true) (hn : (decide (1 ≤ n) && decide (n ≤ 30)) = false) :
    Calls Try.prog 35 #[.agg #[.int .i64 p, .int .i64 n, .slice As ss.length cs, .slice Ao os.length co]] w (fun e w' => e = .returned (.bool (progB p n ss os)) ∧ Below w.heap.size w w') := by
  have hB := Below.refl w.heap.size w
  have _u0 := hs
  have _u1 := ho
  have _u2 := hns
  have _u3 := hno
  clear _u0 _u1 _u2 _u3
  have HNo : Hid (progB p n ss os = false) := Lib.hid (by simp only [progB, hn]; simp)
  have HP := Lib.hid hp
  have HN := Lib.hid hn
  clear hp hn
  go_enter Try.func35, Try.ntmps35
  go_upto_region 0 with (fail)
  refine wp_region_lit ?_
  refine ls_op rfl (fun K' hK' => ?_)
  have lz1 := hB.size
  refine wp_new (some 1) rfl (exec_box 36 _ rfl (#[.int .i64 p, .int .i64 n, .slice As ss.length cs, .slice Ao os.length co]) rfl) (fun Wz2 nnz3 => ?_)
  have bz4 := nnz3.below (Below.refl _ _) (Nat.le_refl _)
  replace hB := below_after hB bz4
  have hz5 : At Wz2 w.heap.size (.cells #[.int .i64 p, .int .i64 n, .slice As ss.length cs, .slice Ao os.length co] 36 (0, 0)) := nnz3.at_
  refine hK' _ _ ?_
  clear hK' K' nnz3 bz4
  go_frame
  refine ls_ex (some 2) (.bool false) rfl rfl (exec_assign _ rfl (.bool false) rfl) ?_
  go_frame
  refine wpList_nil ?_
  go_upto_region 1 with (fail)
  refine wp_region_lit ?_
  refine ls_ex (some 8) (.pointer (some ⟨w.heap.size, 0, none⟩)) rfl rfl (exec_fieldAddr 36 _ 0 rfl _ (by kernel_rfl)) ?_
  go_frame
  refine ls_ex (some 9) (.int .i64 p) rfl rfl (exec_load_one 2 _ rfl w.heap.size 0 rfl (.int .i64 p) _ Try.underlying2 rfl (hz5.at_ 0)) ?_
  go_frame
  refine ls_op rfl (fun K' hK' => ?_)
  have lz8 := hB.size
  have lz9 := hz5.lt
  refine wp_call1 (some 10) rfl 28 _ _ rfl (fun args w => by kernel_rfl) _ rfl _ (l01Prime_c p _) (fun e Wz6 h => ?_)
  obtain ⟨rfl, rfl⟩ := h
  rw [HP.out]
  refine ⟨_, rfl, ?_⟩
  refine hK' _ _ ?_
  clear hK' K'
  go_frame
  refine ls_ex (some 11) (.bool false) rfl rfl (exec_not _ _ rfl true rfl) ?_
  go_frame
  refine ls_ex (some 12) (.bool false) rfl rfl (exec_move _ rfl (.bool false) rfl) ?_
  go_frame
  refine ls_ex_g (some 13) (.pointer (some ⟨w.heap.size, 1, none⟩)) rfl rfl (exec_fieldAddr 36 _ 1 rfl _ (by kernel_rfl)) ?_
  go_frame
  refine ls_ex_g (some 14) (.int .i64 n) rfl rfl (exec_load_one 2 _ rfl w.heap.size 1 rfl (.int .i64 n) _ Try.underlying2 rfl (hz5.at_ 1)) ?_
  go_frame
  refine ls_op_g rfl (fun K' hK' => ?_)
  have lz12 := hB.size
  have lz13 := hz5.lt
  refine wp_call3 (some 15) rfl 29 _ _ _ _ rfl (fun args w => by kernel_rfl) _ _ _ rfl rfl rfl _ (l01In_c n 1 30 _) (fun e Wz10 h => ?_)
  obtain ⟨rfl, rfl⟩ := h
  rw [HN.out]
  refine ⟨_, rfl, ?_⟩
  refine hK' _ _ ?_
  clear hK' K'
  go_frame
  refine ls_ex_g (some 16) (.bool true) rfl rfl (exec_not _ _ rfl false rfl) ?_
  go_frame
  refine ls_ex (some 17) (.bool true) rfl rfl (exec_pick _ _ _ rfl false rfl (.bool true) rfl) ?_
  go_frame
  refine ls_ex (some 18) (.bool true) rfl rfl (exec_move _ rfl (.bool true) rfl) ?_
  go_frame
  refine ls_skip_g (some 19) rfl rfl ?_
  go_frame
  refine ls_skip_g (some 20) rfl rfl ?_
  go_frame
  refine ls_skip_g (some 21) rfl rfl ?_
  go_frame
  refine ls_skip_g (some 22) rfl rfl ?_
  go_frame
  refine ls_ex (some 23) (.bool true) rfl rfl (exec_pick _ _ _ rfl true rfl (.bool true) rfl) ?_
  go_frame
  refine ls_ex (some 24) (.bool true) rfl rfl (exec_move _ rfl (.bool true) rfl) ?_
  go_frame
  refine ls_skip_g (some 25) rfl rfl ?_
  go_frame
  refine ls_skip_g (some 26) rfl rfl ?_
  go_frame
  refine ls_skip_g (some 27) rfl rfl ?_
  go_frame
  refine ls_skip_g (some 28) rfl rfl ?_
  go_frame
  refine ls_ex (some 29) (.bool true) rfl rfl (exec_pick _ _ _ rfl true rfl (.bool true) rfl) ?_
  go_frame
  refine ls_ex (some 30) (.bool true) rfl rfl (exec_move _ rfl (.bool true) rfl) ?_
  go_frame
  refine ls_skip_g (some 31) rfl rfl ?_
  go_frame
  refine ls_skip_g (some 32) rfl rfl ?_
  go_frame
  refine ls_skip_g (some 33) rfl rfl ?_
  go_frame
  refine ls_skip_g (some 34) rfl rfl ?_
  go_frame
  refine ls_ex (some 35) (.bool true) rfl rfl (exec_pick _ _ _ rfl true rfl (.bool true) rfl) ?_
  go_frame
  refine wpList_nil ?_
  go_upto_region 2 with (fail)
  refine wp_region_lit ?_
  refine ls_ex (some 2) (.bool false) rfl rfl (exec_assign _ rfl (.bool false) rfl) ?_
  go_frame
  refine wpList_nil ?_
  go_wp2_with fail
  go_ret
  exact ⟨by rw [HNo.out]; rfl, hB⟩
set_option maxHeartbeats 12800000 in
theorem l07Is_c_ (p n : Int) (As Ao : Option Addr) (cs co : Nat) (ss os : List (List Int)) (w : World) (hs : RdK 3 w As ss) (ho : RdK 2 w Ao os) (hns : ss.length ≤ 1048576) (hno : os.length ≤ 1048576) (hp : primeB p = true) (hn : (decide (1 ≤ n) && decide (n ≤ 30)) = true) (hl : 900 < ss.length) :
    Calls Try.prog 35 #[.agg #[.int .i64 p, .int .i64 n, .slice As ss.length cs, .slice Ao os.length co]] w (fun e w' => e = .returned (.bool (progB p n ss os)) ∧ Below w.heap.size w w') := by
  have hB := Below.refl w.heap.size w
  have _u0 := hs
  have _u1 := ho
  have _u2 := hns
  have _u3 := hno
  clear _u0 _u1 _u2 _u3
  have HNo : Hid (progB p n ss os = false) := Lib.hid (by unfold progB; rw [decide_eq_false (show ¬ ss.length ≤ 900 by omega)]; simp)
  have HP := Lib.hid hp
  have HN := Lib.hid hn
  clear hp hn
  go_enter Try.func35, Try.ntmps35
  go_upto_region 0 with (fail)
  refine wp_region_lit ?_
  refine ls_op rfl (fun K' hK' => ?_)
  have lz1 := hB.size
  refine wp_new (some 1) rfl (exec_box 36 _ rfl (#[.int .i64 p, .int .i64 n, .slice As ss.length cs, .slice Ao os.length co]) rfl) (fun Wz2 nnz3 => ?_)
  have bz4 := nnz3.below (Below.refl _ _) (Nat.le_refl _)
  replace hB := below_after hB bz4
  have hz5 : At Wz2 w.heap.size (.cells #[.int .i64 p, .int .i64 n, .slice As ss.length cs, .slice Ao os.length co] 36 (0, 0)) := nnz3.at_
  refine hK' _ _ ?_
  clear hK' K' nnz3 bz4
  go_frame
  refine ls_ex (some 2) (.bool false) rfl rfl (exec_assign _ rfl (.bool false) rfl) ?_
  go_frame
  refine wpList_nil ?_
  go_upto_region 1 with (fail)
  refine wp_region_lit ?_
  refine ls_ex (some 8) (.pointer (some ⟨w.heap.size, 0, none⟩)) rfl rfl (exec_fieldAddr 36 _ 0 rfl _ (by kernel_rfl)) ?_
  go_frame
  refine ls_ex (some 9) (.int .i64 p) rfl rfl (exec_load_one 2 _ rfl w.heap.size 0 rfl (.int .i64 p) _ Try.underlying2 rfl (hz5.at_ 0)) ?_
  go_frame
  refine ls_op rfl (fun K' hK' => ?_)
  have lz8 := hB.size
  have lz9 := hz5.lt
  refine wp_call1 (some 10) rfl 28 _ _ rfl (fun args w => by kernel_rfl) _ rfl _ (l01Prime_c p _) (fun e Wz6 h => ?_)
  obtain ⟨rfl, rfl⟩ := h
  rw [HP.out]
  refine ⟨_, rfl, ?_⟩
  refine hK' _ _ ?_
  clear hK' K'
  go_frame
  refine ls_ex (some 11) (.bool false) rfl rfl (exec_not _ _ rfl true rfl) ?_
  go_frame
  refine ls_ex (some 12) (.bool false) rfl rfl (exec_move _ rfl (.bool false) rfl) ?_
  go_frame
  refine ls_ex_g (some 13) (.pointer (some ⟨w.heap.size, 1, none⟩)) rfl rfl (exec_fieldAddr 36 _ 1 rfl _ (by kernel_rfl)) ?_
  go_frame
  refine ls_ex_g (some 14) (.int .i64 n) rfl rfl (exec_load_one 2 _ rfl w.heap.size 1 rfl (.int .i64 n) _ Try.underlying2 rfl (hz5.at_ 1)) ?_
  go_frame
  refine ls_op_g rfl (fun K' hK' => ?_)
  have lz12 := hB.size
  have lz13 := hz5.lt
  refine wp_call3 (some 15) rfl 29 _ _ _ _ rfl (fun args w => by kernel_rfl) _ _ _ rfl rfl rfl _ (l01In_c n 1 30 _) (fun e Wz10 h => ?_)
  obtain ⟨rfl, rfl⟩ := h
  rw [HN.out]
  refine ⟨_, rfl, ?_⟩
  refine hK' _ _ ?_
  clear hK' K'
  go_frame
  refine ls_ex_g (some 16) (.bool false) rfl rfl (exec_not _ _ rfl true rfl) ?_
  go_frame
  refine ls_ex (some 17) (.bool false) rfl rfl (exec_pick _ _ _ rfl false rfl (.bool false) rfl) ?_
  go_frame
  refine ls_ex (some 18) (.bool false) rfl rfl (exec_move _ rfl (.bool false) rfl) ?_
  go_frame
  refine ls_ex_g (some 19) (.pointer (some ⟨w.heap.size, 2, none⟩)) rfl rfl (exec_fieldAddr 36 _ 2 rfl _ (by kernel_rfl)) ?_
  go_frame
  refine ls_ex_g (some 20) (.slice As ss.length cs) rfl rfl (exec_load_one 33 _ rfl w.heap.size 2 rfl (.slice As ss.length cs) _ Try.underlying33 rfl (hz5.at_ 2)) ?_
  go_frame
  refine ls_ex_g (some 21) (.int .i64 ss.length) rfl rfl (exec_len _ 33 57 rfl As ss.length cs rfl Try.underlying33) ?_
  go_frame
  refine ls_ex_g (some 22) (.bool true) rfl rfl (exec_gtr _ _ _ _ rfl ss.length 900 rfl rfl true (decide_eq_true (by omega))) ?_
  go_frame
  refine ls_ex (some 23) (.bool true) rfl rfl (exec_pick _ _ _ rfl false rfl (.bool true) rfl) ?_
  go_frame
  refine ls_ex (some 24) (.bool true) rfl rfl (exec_move _ rfl (.bool true) rfl) ?_
  go_frame
  refine ls_skip_g (some 25) rfl rfl ?_
  go_frame
  refine ls_skip_g (some 26) rfl rfl ?_
  go_frame
  refine ls_skip_g (some 27) rfl rfl ?_
  go_frame
  refine ls_skip_g (some 28) rfl rfl ?_
  go_frame
  refine ls_ex (some 29) (.bool true) rfl rfl (exec_pick _ _ _ rfl true rfl (.bool true) rfl) ?_
  go_frame
  refine ls_ex (some 30) (.bool true) rfl rfl (exec_move _ rfl (.bool true) rfl) ?_
  go_frame
  refine ls_skip_g (some 31) rfl rfl ?_
  go_frame
  refine ls_skip_g (some 32) rfl rfl ?_
  go_frame
  refine ls_skip_g (some 33) rfl rfl ?_
  go_frame
  refine ls_skip_g (some 34) rfl rfl ?_
  go_frame
  refine ls_ex (some 35) (.bool true) rfl rfl (exec_pick _ _ _ rfl true rfl (.bool true) rfl) ?_
  go_frame
  refine wpList_nil ?_
  go_upto_region 2 with (fail)
  refine wp_region_lit ?_
  refine ls_ex (some 2) (.bool false) rfl rfl (exec_assign _ rfl (.bool false) rfl) ?_
  go_frame
  refine wpList_nil ?_
  go_wp2_with fail
  go_ret
  exact ⟨by rw [HNo.out]; rfl, hB⟩
set_option maxHeartbeats 12800000 in
theorem l07Is_d (p n : Int) (As Ao : Option Addr) (cs co : Nat) (ss os : List (List Int)) (w : World) (hs : RdK 3 w As ss) (ho : RdK 2 w Ao os) (hns : ss.length ≤ 1048576) (hno : os.length ≤ 1048576) (hp : primeB p = true) (hn : (decide (1 ≤ n) && decide (n ≤ 30)) = true) (hl : ss.length ≤ 900) (ho1 : os.length < 1) :
    Calls Try.prog 35 #[.agg #[.int .i64 p, .int .i64 n, .slice As ss.length cs, .slice Ao os.length co]] w (fun e w' => e = .returned (.bool (progB p n ss os)) ∧ Below w.heap.size w w') := by
  have hB := Below.refl w.heap.size w
  have _u0 := hs
  have _u1 := ho
  have _u2 := hns
  have _u3 := hno
  clear _u0 _u1 _u2 _u3
  have HNo : Hid (progB p n ss os = false) := Lib.hid (by unfold progB; rw [decide_eq_false (show ¬ 1 ≤ os.length by omega)]; simp)
  have HP := Lib.hid hp
  have HN := Lib.hid hn
  clear hp hn
  go_enter Try.func35, Try.ntmps35
  go_upto_region 0 with (fail)
  refine wp_region_lit ?_
  refine ls_op rfl (fun K' hK' => ?_)
  have lz1 := hB.size
  refine wp_new (some 1) rfl (exec_box 36 _ rfl (#[.int .i64 p, .int .i64 n, .slice As ss.length cs, .slice Ao os.length co]) rfl) (fun Wz2 nnz3 => ?_)
  have bz4 := nnz3.below (Below.refl _ _) (Nat.le_refl _)
  replace hB := below_after hB bz4
  have hz5 : At Wz2 w.heap.size (.cells #[.int .i64 p, .int .i64 n, .slice As ss.length cs, .slice Ao os.length co] 36 (0, 0)) := nnz3.at_
  refine hK' _ _ ?_
  clear hK' K' nnz3 bz4
  go_frame
  refine ls_ex (some 2) (.bool false) rfl rfl (exec_assign _ rfl (.bool false) rfl) ?_
  go_frame
  refine wpList_nil ?_
  go_upto_region 1 with (fail)
  refine wp_region_lit ?_
  refine ls_ex (some 8) (.pointer (some ⟨w.heap.size, 0, none⟩)) rfl rfl (exec_fieldAddr 36 _ 0 rfl _ (by kernel_rfl)) ?_
  go_frame
  refine ls_ex (some 9) (.int .i64 p) rfl rfl (exec_load_one 2 _ rfl w.heap.size 0 rfl (.int .i64 p) _ Try.underlying2 rfl (hz5.at_ 0)) ?_
  go_frame
  refine ls_op rfl (fun K' hK' => ?_)
  have lz8 := hB.size
  have lz9 := hz5.lt
  refine wp_call1 (some 10) rfl 28 _ _ rfl (fun args w => by kernel_rfl) _ rfl _ (l01Prime_c p _) (fun e Wz6 h => ?_)
  obtain ⟨rfl, rfl⟩ := h
  rw [HP.out]
  refine ⟨_, rfl, ?_⟩
  refine hK' _ _ ?_
  clear hK' K'
  go_frame
  refine ls_ex (some 11) (.bool false) rfl rfl (exec_not _ _ rfl true rfl) ?_
  go_frame
  refine ls_ex (some 12) (.bool false) rfl rfl (exec_move _ rfl (.bool false) rfl) ?_
  go_frame
  refine ls_ex_g (some 13) (.pointer (some ⟨w.heap.size, 1, none⟩)) rfl rfl (exec_fieldAddr 36 _ 1 rfl _ (by kernel_rfl)) ?_
  go_frame
  refine ls_ex_g (some 14) (.int .i64 n) rfl rfl (exec_load_one 2 _ rfl w.heap.size 1 rfl (.int .i64 n) _ Try.underlying2 rfl (hz5.at_ 1)) ?_
  go_frame
  refine ls_op_g rfl (fun K' hK' => ?_)
  have lz12 := hB.size
  have lz13 := hz5.lt
  refine wp_call3 (some 15) rfl 29 _ _ _ _ rfl (fun args w => by kernel_rfl) _ _ _ rfl rfl rfl _ (l01In_c n 1 30 _) (fun e Wz10 h => ?_)
  obtain ⟨rfl, rfl⟩ := h
  rw [HN.out]
  refine ⟨_, rfl, ?_⟩
  refine hK' _ _ ?_
  clear hK' K'
  go_frame
  refine ls_ex_g (some 16) (.bool false) rfl rfl (exec_not _ _ rfl true rfl) ?_
  go_frame
  refine ls_ex (some 17) (.bool false) rfl rfl (exec_pick _ _ _ rfl false rfl (.bool false) rfl) ?_
  go_frame
  refine ls_ex (some 18) (.bool false) rfl rfl (exec_move _ rfl (.bool false) rfl) ?_
  go_frame
  refine ls_ex_g (some 19) (.pointer (some ⟨w.heap.size, 2, none⟩)) rfl rfl (exec_fieldAddr 36 _ 2 rfl _ (by kernel_rfl)) ?_
  go_frame
  refine ls_ex_g (some 20) (.slice As ss.length cs) rfl rfl (exec_load_one 33 _ rfl w.heap.size 2 rfl (.slice As ss.length cs) _ Try.underlying33 rfl (hz5.at_ 2)) ?_
  go_frame
  refine ls_ex_g (some 21) (.int .i64 ss.length) rfl rfl (exec_len _ 33 57 rfl As ss.length cs rfl Try.underlying33) ?_
  go_frame
  refine ls_ex_g (some 22) (.bool false) rfl rfl (exec_gtr _ _ _ _ rfl ss.length 900 rfl rfl false (decide_eq_false (by omega))) ?_
  go_frame
  refine ls_ex (some 23) (.bool false) rfl rfl (exec_pick _ _ _ rfl false rfl (.bool false) rfl) ?_
  go_frame
  refine ls_ex (some 24) (.bool false) rfl rfl (exec_move _ rfl (.bool false) rfl) ?_
  go_frame
  refine ls_ex_g (some 25) (.pointer (some ⟨w.heap.size, 3, none⟩)) rfl rfl (exec_fieldAddr 36 _ 3 rfl _ (by kernel_rfl)) ?_
  go_frame
  refine ls_ex_g (some 26) (.slice Ao os.length co) rfl rfl (exec_load_one 34 _ rfl w.heap.size 3 rfl (.slice Ao os.length co) _ Try.underlying34 rfl (hz5.at_ 3)) ?_
  go_frame
  refine ls_ex_g (some 27) (.int .i64 os.length) rfl rfl (exec_len _ 34 61 rfl Ao os.length co rfl Try.underlying34) ?_
  go_frame
  refine ls_ex_g (some 28) (.bool true) rfl rfl (exec_lss _ _ _ _ rfl os.length 1 rfl rfl true (decide_eq_true (by omega))) ?_
  go_frame
  refine ls_ex (some 29) (.bool true) rfl rfl (exec_pick _ _ _ rfl false rfl (.bool true) rfl) ?_
  go_frame
  refine ls_ex (some 30) (.bool true) rfl rfl (exec_move _ rfl (.bool true) rfl) ?_
  go_frame
  refine ls_skip_g (some 31) rfl rfl ?_
  go_frame
  refine ls_skip_g (some 32) rfl rfl ?_
  go_frame
  refine ls_skip_g (some 33) rfl rfl ?_
  go_frame
  refine ls_skip_g (some 34) rfl rfl ?_
  go_frame
  refine ls_ex (some 35) (.bool true) rfl rfl (exec_pick _ _ _ rfl true rfl (.bool true) rfl) ?_
  go_frame
  refine wpList_nil ?_
  go_upto_region 2 with (fail)
  refine wp_region_lit ?_
  refine ls_ex (some 2) (.bool false) rfl rfl (exec_assign _ rfl (.bool false) rfl) ?_
  go_frame
  refine wpList_nil ?_
  go_wp2_with fail
  go_ret
  exact ⟨by rw [HNo.out]; rfl, hB⟩
set_option maxHeartbeats 12800000 in
theorem l07Is_e (p n : Int) (As Ao : Option Addr) (cs co : Nat) (ss os : List (List Int)) (w : World) (hs : RdK 3 w As ss) (ho : RdK 2 w Ao os) (hns : ss.length ≤ 1048576) (hno : os.length ≤ 1048576) (hp : primeB p = true) (hn : (decide (1 ≤ n) && decide (n ≤ 30)) = true) (hl : ss.length ≤ 900) (ho1 : 30 < os.length) :
    Calls Try.prog 35 #[.agg #[.int .i64 p, .int .i64 n, .slice As ss.length cs, .slice Ao os.length co]] w (fun e w' => e = .returned (.bool (progB p n ss os)) ∧ Below w.heap.size w w') := by
  have hB := Below.refl w.heap.size w
  have _u0 := hs
  have _u1 := ho
  have _u2 := hns
  have _u3 := hno
  clear _u0 _u1 _u2 _u3
  have HNo : Hid (progB p n ss os = false) := Lib.hid (by unfold progB; rw [decide_eq_false (show ¬ os.length ≤ 30 by omega)]; simp)
  have HP := Lib.hid hp
  have HN := Lib.hid hn
  clear hp hn
  go_enter Try.func35, Try.ntmps35
  go_upto_region 0 with (fail)
  refine wp_region_lit ?_
  refine ls_op rfl (fun K' hK' => ?_)
  have lz1 := hB.size
  refine wp_new (some 1) rfl (exec_box 36 _ rfl (#[.int .i64 p, .int .i64 n, .slice As ss.length cs, .slice Ao os.length co]) rfl) (fun Wz2 nnz3 => ?_)
  have bz4 := nnz3.below (Below.refl _ _) (Nat.le_refl _)
  replace hB := below_after hB bz4
  have hz5 : At Wz2 w.heap.size (.cells #[.int .i64 p, .int .i64 n, .slice As ss.length cs, .slice Ao os.length co] 36 (0, 0)) := nnz3.at_
  refine hK' _ _ ?_
  clear hK' K' nnz3 bz4
  go_frame
  refine ls_ex (some 2) (.bool false) rfl rfl (exec_assign _ rfl (.bool false) rfl) ?_
  go_frame
  refine wpList_nil ?_
  go_upto_region 1 with (fail)
  refine wp_region_lit ?_
  refine ls_ex (some 8) (.pointer (some ⟨w.heap.size, 0, none⟩)) rfl rfl (exec_fieldAddr 36 _ 0 rfl _ (by kernel_rfl)) ?_
  go_frame
  refine ls_ex (some 9) (.int .i64 p) rfl rfl (exec_load_one 2 _ rfl w.heap.size 0 rfl (.int .i64 p) _ Try.underlying2 rfl (hz5.at_ 0)) ?_
  go_frame
  refine ls_op rfl (fun K' hK' => ?_)
  have lz8 := hB.size
  have lz9 := hz5.lt
  refine wp_call1 (some 10) rfl 28 _ _ rfl (fun args w => by kernel_rfl) _ rfl _ (l01Prime_c p _) (fun e Wz6 h => ?_)
  obtain ⟨rfl, rfl⟩ := h
  rw [HP.out]
  refine ⟨_, rfl, ?_⟩
  refine hK' _ _ ?_
  clear hK' K'
  go_frame
  refine ls_ex (some 11) (.bool false) rfl rfl (exec_not _ _ rfl true rfl) ?_
  go_frame
  refine ls_ex (some 12) (.bool false) rfl rfl (exec_move _ rfl (.bool false) rfl) ?_
  go_frame
  refine ls_ex_g (some 13) (.pointer (some ⟨w.heap.size, 1, none⟩)) rfl rfl (exec_fieldAddr 36 _ 1 rfl _ (by kernel_rfl)) ?_
  go_frame
  refine ls_ex_g (some 14) (.int .i64 n) rfl rfl (exec_load_one 2 _ rfl w.heap.size 1 rfl (.int .i64 n) _ Try.underlying2 rfl (hz5.at_ 1)) ?_
  go_frame
  refine ls_op_g rfl (fun K' hK' => ?_)
  have lz12 := hB.size
  have lz13 := hz5.lt
  refine wp_call3 (some 15) rfl 29 _ _ _ _ rfl (fun args w => by kernel_rfl) _ _ _ rfl rfl rfl _ (l01In_c n 1 30 _) (fun e Wz10 h => ?_)
  obtain ⟨rfl, rfl⟩ := h
  rw [HN.out]
  refine ⟨_, rfl, ?_⟩
  refine hK' _ _ ?_
  clear hK' K'
  go_frame
  refine ls_ex_g (some 16) (.bool false) rfl rfl (exec_not _ _ rfl true rfl) ?_
  go_frame
  refine ls_ex (some 17) (.bool false) rfl rfl (exec_pick _ _ _ rfl false rfl (.bool false) rfl) ?_
  go_frame
  refine ls_ex (some 18) (.bool false) rfl rfl (exec_move _ rfl (.bool false) rfl) ?_
  go_frame
  refine ls_ex_g (some 19) (.pointer (some ⟨w.heap.size, 2, none⟩)) rfl rfl (exec_fieldAddr 36 _ 2 rfl _ (by kernel_rfl)) ?_
  go_frame
  refine ls_ex_g (some 20) (.slice As ss.length cs) rfl rfl (exec_load_one 33 _ rfl w.heap.size 2 rfl (.slice As ss.length cs) _ Try.underlying33 rfl (hz5.at_ 2)) ?_
  go_frame
  refine ls_ex_g (some 21) (.int .i64 ss.length) rfl rfl (exec_len _ 33 57 rfl As ss.length cs rfl Try.underlying33) ?_
  go_frame
  refine ls_ex_g (some 22) (.bool false) rfl rfl (exec_gtr _ _ _ _ rfl ss.length 900 rfl rfl false (decide_eq_false (by omega))) ?_
  go_frame
  refine ls_ex (some 23) (.bool false) rfl rfl (exec_pick _ _ _ rfl false rfl (.bool false) rfl) ?_
  go_frame
  refine ls_ex (some 24) (.bool false) rfl rfl (exec_move _ rfl (.bool false) rfl) ?_
  go_frame
  refine ls_ex_g (some 25) (.pointer (some ⟨w.heap.size, 3, none⟩)) rfl rfl (exec_fieldAddr 36 _ 3 rfl _ (by kernel_rfl)) ?_
  go_frame
  refine ls_ex_g (some 26) (.slice Ao os.length co) rfl rfl (exec_load_one 34 _ rfl w.heap.size 3 rfl (.slice Ao os.length co) _ Try.underlying34 rfl (hz5.at_ 3)) ?_
  go_frame
  refine ls_ex_g (some 27) (.int .i64 os.length) rfl rfl (exec_len _ 34 61 rfl Ao os.length co rfl Try.underlying34) ?_
  go_frame
  refine ls_ex_g (some 28) (.bool false) rfl rfl (exec_lss _ _ _ _ rfl os.length 1 rfl rfl false (decide_eq_false (by omega))) ?_
  go_frame
  refine ls_ex (some 29) (.bool false) rfl rfl (exec_pick _ _ _ rfl false rfl (.bool false) rfl) ?_
  go_frame
  refine ls_ex (some 30) (.bool false) rfl rfl (exec_move _ rfl (.bool false) rfl) ?_
  go_frame
  refine ls_ex_g (some 31) (.pointer (some ⟨w.heap.size, 3, none⟩)) rfl rfl (exec_fieldAddr 36 _ 3 rfl _ (by kernel_rfl)) ?_
  go_frame
  refine ls_ex_g (some 32) (.slice Ao os.length co) rfl rfl (exec_load_one 34 _ rfl w.heap.size 3 rfl (.slice Ao os.length co) _ Try.underlying34 rfl (hz5.at_ 3)) ?_
  go_frame
  refine ls_ex_g (some 33) (.int .i64 os.length) rfl rfl (exec_len _ 34 61 rfl Ao os.length co rfl Try.underlying34) ?_
  go_frame
  refine ls_ex_g (some 34) (.bool true) rfl rfl (exec_gtr _ _ _ _ rfl os.length 30 rfl rfl true (decide_eq_true (by omega))) ?_
  go_frame
  refine ls_ex (some 35) (.bool true) rfl rfl (exec_pick _ _ _ rfl false rfl (.bool true) rfl) ?_
  go_frame
  refine wpList_nil ?_
  go_upto_region 2 with (fail)
  refine wp_region_lit ?_
  refine ls_ex (some 2) (.bool false) rfl rfl (exec_assign _ rfl (.bool false) rfl) ?_
  go_frame
  refine wpList_nil ?_
  go_wp2_with fail
  go_ret
  exact ⟨by rw [HNo.out]; rfl, hB⟩
set_option maxHeartbeats 12800000 in
theorem l07Is_f (p n : Int) (As Ao : Option Addr) (cs co : Nat) (ss os : List (List Int)) (w : World) (hs : RdK 3 w As ss) (ho : RdK 2 w Ao os) (hns : ss.length ≤ 1048576) (hno : os.length ≤ 1048576) (hp : primeB p = true) (hn : (decide (1 ≤ n) && decide (n ≤ 30)) = true) (hl : ss.length ≤ 900) (ho1 : 1 ≤ os.length ∧ os.length ≤ 30) :
    Calls Try.prog 35 #[.agg #[.int .i64 p, .int .i64 n, .slice As ss.length cs, .slice Ao os.length co]] w (fun e w' => e = .returned (.bool (progB p n ss os)) ∧ Below w.heap.size w w') := by
  have hB := Below.refl w.heap.size w
  have hp5 := primeB_bounds hp
  have hn9 : 1 ≤ n ∧ n ≤ 30 := by simp only [Bool.and_eq_true, decide_eq_true_eq] at hn; exact hn
  have HP := Lib.hid hp
  have HN := Lib.hid hn
  clear hp hn
  go_enter Try.func35, Try.ntmps35
  go_upto_region 0 with (fail)
  refine wp_region_lit ?_
  refine ls_op rfl (fun K' hK' => ?_)
  have lz1 := hB.size
  refine wp_new (some 1) rfl (exec_box 36 _ rfl (#[.int .i64 p, .int .i64 n, .slice As ss.length cs, .slice Ao os.length co]) rfl) (fun Wz2 nnz3 => ?_)
  have bz4 := nnz3.below (Below.refl _ _) (Nat.le_refl _)
  replace hB := below_after hB bz4
  have hz5 : At Wz2 w.heap.size (.cells #[.int .i64 p, .int .i64 n, .slice As ss.length cs, .slice Ao os.length co] 36 (0, 0)) := nnz3.at_
  refine hK' _ _ ?_
  clear hK' K' nnz3 bz4
  go_frame
  refine ls_ex (some 2) (.bool false) rfl rfl (exec_assign _ rfl (.bool false) rfl) ?_
  go_frame
  refine wpList_nil ?_
  go_upto_region 1 with (fail)
  refine wp_region_lit ?_
  refine ls_ex (some 8) (.pointer (some ⟨w.heap.size, 0, none⟩)) rfl rfl (exec_fieldAddr 36 _ 0 rfl _ (by kernel_rfl)) ?_
  go_frame
  refine ls_ex (some 9) (.int .i64 p) rfl rfl (exec_load_one 2 _ rfl w.heap.size 0 rfl (.int .i64 p) _ Try.underlying2 rfl (hz5.at_ 0)) ?_
  go_frame
  refine ls_op rfl (fun K' hK' => ?_)
  have lz8 := hB.size
  have lz9 := hz5.lt
  refine wp_call1 (some 10) rfl 28 _ _ rfl (fun args w => by kernel_rfl) _ rfl _ (l01Prime_c p _) (fun e Wz6 h => ?_)
  obtain ⟨rfl, rfl⟩ := h
  rw [HP.out]
  refine ⟨_, rfl, ?_⟩
  refine hK' _ _ ?_
  clear hK' K'
  go_frame
  refine ls_ex (some 11) (.bool false) rfl rfl (exec_not _ _ rfl true rfl) ?_
  go_frame
  refine ls_ex (some 12) (.bool false) rfl rfl (exec_move _ rfl (.bool false) rfl) ?_
  go_frame
  refine ls_ex_g (some 13) (.pointer (some ⟨w.heap.size, 1, none⟩)) rfl rfl (exec_fieldAddr 36 _ 1 rfl _ (by kernel_rfl)) ?_
  go_frame
  refine ls_ex_g (some 14) (.int .i64 n) rfl rfl (exec_load_one 2 _ rfl w.heap.size 1 rfl (.int .i64 n) _ Try.underlying2 rfl (hz5.at_ 1)) ?_
  go_frame
  refine ls_op_g rfl (fun K' hK' => ?_)
  have lz12 := hB.size
  have lz13 := hz5.lt
  refine wp_call3 (some 15) rfl 29 _ _ _ _ rfl (fun args w => by kernel_rfl) _ _ _ rfl rfl rfl _ (l01In_c n 1 30 _) (fun e Wz10 h => ?_)
  obtain ⟨rfl, rfl⟩ := h
  rw [HN.out]
  refine ⟨_, rfl, ?_⟩
  refine hK' _ _ ?_
  clear hK' K'
  go_frame
  refine ls_ex_g (some 16) (.bool false) rfl rfl (exec_not _ _ rfl true rfl) ?_
  go_frame
  refine ls_ex (some 17) (.bool false) rfl rfl (exec_pick _ _ _ rfl false rfl (.bool false) rfl) ?_
  go_frame
  refine ls_ex (some 18) (.bool false) rfl rfl (exec_move _ rfl (.bool false) rfl) ?_
  go_frame
  refine ls_ex_g (some 19) (.pointer (some ⟨w.heap.size, 2, none⟩)) rfl rfl (exec_fieldAddr 36 _ 2 rfl _ (by kernel_rfl)) ?_
  go_frame
  refine ls_ex_g (some 20) (.slice As ss.length cs) rfl rfl (exec_load_one 33 _ rfl w.heap.size 2 rfl (.slice As ss.length cs) _ Try.underlying33 rfl (hz5.at_ 2)) ?_
  go_frame
  refine ls_ex_g (some 21) (.int .i64 ss.length) rfl rfl (exec_len _ 33 57 rfl As ss.length cs rfl Try.underlying33) ?_
  go_frame
  refine ls_ex_g (some 22) (.bool false) rfl rfl (exec_gtr _ _ _ _ rfl ss.length 900 rfl rfl false (decide_eq_false (by omega))) ?_
  go_frame
  refine ls_ex (some 23) (.bool false) rfl rfl (exec_pick _ _ _ rfl false rfl (.bool false) rfl) ?_
  go_frame
  refine ls_ex (some 24) (.bool false) rfl rfl (exec_move _ rfl (.bool false) rfl) ?_
  go_frame
  refine ls_ex_g (some 25) (.pointer (some ⟨w.heap.size, 3, none⟩)) rfl rfl (exec_fieldAddr 36 _ 3 rfl _ (by kernel_rfl)) ?_
  go_frame
  refine ls_ex_g (some 26) (.slice Ao os.length co) rfl rfl (exec_load_one 34 _ rfl w.heap.size 3 rfl (.slice Ao os.length co) _ Try.underlying34 rfl (hz5.at_ 3)) ?_
  go_frame
  refine ls_ex_g (some 27) (.int .i64 os.length) rfl rfl (exec_len _ 34 61 rfl Ao os.length co rfl Try.underlying34) ?_
  go_frame
  refine ls_ex_g (some 28) (.bool false) rfl rfl (exec_lss _ _ _ _ rfl os.length 1 rfl rfl false (decide_eq_false (by omega))) ?_
  go_frame
  refine ls_ex (some 29) (.bool false) rfl rfl (exec_pick _ _ _ rfl false rfl (.bool false) rfl) ?_
  go_frame
  refine ls_ex (some 30) (.bool false) rfl rfl (exec_move _ rfl (.bool false) rfl) ?_
  go_frame
  refine ls_ex_g (some 31) (.pointer (some ⟨w.heap.size, 3, none⟩)) rfl rfl (exec_fieldAddr 36 _ 3 rfl _ (by kernel_rfl)) ?_
  go_frame
  refine ls_ex_g (some 32) (.slice Ao os.length co) rfl rfl (exec_load_one 34 _ rfl w.heap.size 3 rfl (.slice Ao os.length co) _ Try.underlying34 rfl (hz5.at_ 3)) ?_
  go_frame
  refine ls_ex_g (some 33) (.int .i64 os.length) rfl rfl (exec_len _ 34 61 rfl Ao os.length co rfl Try.underlying34) ?_
  go_frame
  refine ls_ex_g (some 34) (.bool false) rfl rfl (exec_gtr _ _ _ _ rfl os.length 30 rfl rfl false (decide_eq_false (by omega))) ?_
  go_frame
  refine ls_ex (some 35) (.bool false) rfl rfl (exec_pick _ _ _ rfl false rfl (.bool false) rfl) ?_
  go_frame
  refine wpList_nil ?_
  go_upto_region 3 with (fail)
  refine wp_region_lit ?_
  refine ls_ex (some 3) (.int .i64 0) rfl rfl (exec_assign _ rfl (.int .i64 0) rfl) ?_
  go_frame
  refine wpList_nil ?_
  go_wp2_with fail
  go_loopw [3] (fun s3 wr => ∃ k : Nat, k ≤ ss.length ∧ s3 = .int .i64 k ∧ Hid (stepsB p n ss k = true) ∧ Below w.heap.size w wr ∧ At wr w.heap.size (.cells #[.int .i64 p, .int .i64 n, .slice As ss.length cs, .slice Ao os.length co] 36 (0, 0))) (fun s3 _ => ss.length - (intOf s3).toNat)
  case atStart => exact ⟨0, by omega, rfl, Lib.hid rfl, hB, hz5⟩
  case round =>
    clear hB hz5
    obtain ⟨k, hk, rfl, HG, hB, h0⟩ := hrel
    by_cases hlt : k < ss.length
    · obtain ⟨b, off, rfl, hc⟩ := (hs.keep hB).at_ hlt
      clear hc
      obtain ⟨l, r, f, hq⟩ := row3 (hs.good _ (List.getElem_mem hlt))
      have Hq := Lib.hid hq
      cases hl : (decide (0 ≤ l) && decide (l ≤ n + k - 1)) with
      | false =>
        have HNo : Hid (progB p n ss os = false) := Lib.hid (progB_noS hlt (by rw [hq, stepB_sp, hl]; simp))
        clear hq
        have HL := Lib.hid hl
        clear hl
        go_upto_region 4 with (fail)
        refine wp_region_lit ?_
        refine ls_ex (some 36) (.int .i64 k) rfl rfl (exec_move _ rfl (.int .i64 k) rfl) ?_
        go_frame
        refine ls_ex (some 37) (.pointer (some ⟨w.heap.size, 2, none⟩)) rfl rfl (exec_fieldAddr 36 _ 2 rfl _ (by kernel_rfl)) ?_
        go_frame
        refine ls_ex (some 38) (.slice (some ⟨b, off, none⟩) ss.length cs) rfl rfl (exec_load_one 33 _ rfl w.heap.size 2 rfl (.slice (some ⟨b, off, none⟩) ss.length cs) _ Try.underlying33 rfl (h0.at_ 2)) ?_
        go_frame
        refine ls_ex (some 39) (.int .i64 ss.length) rfl rfl (exec_len _ 33 57 rfl ((some ⟨b, off, none⟩)) ss.length cs rfl Try.underlying33) ?_
        go_frame
        refine ls_ex (some 40) (.bool true) rfl rfl (exec_lss _ _ _ _ rfl k ss.length rfl rfl true (decide_eq_true (by omega))) ?_
        go_frame
        refine wpList_nil ?_
        go_upto_region 6 with (fail)
        refine wp_region_y (zs := []) (S := fun w' => Below w.heap.size w w' ∧ At w' w.heap.size (.cells #[.int .i64 p, .int .i64 n, .slice (some ⟨b, off, none⟩) ss.length cs, .slice Ao os.length co] 36 (0, 0))) (S2 := fun w' => True) (by kernel_rfl) ?_
        change wpAnyY _ _ _ _ _ _ _ _ _ _ (World.drew _)
        generalize hwdz14 : World.drew _ = wdz14
        replace hB : Below w.heap.size w wdz14 := by rw [← hwdz14]; exact hB.drew
        replace h0 : At wdz14 w.heap.size (.cells #[.int .i64 p, .int .i64 n, .slice (some ⟨b, off, none⟩) ss.length cs, .slice Ao os.length co] 36 (0, 0)) := by rw [← hwdz14]; exact h0
        clear hwdz14
        refine y_yield 0 (some 43) (.pointer (some ⟨w.heap.size, 2, none⟩)) rfl (by kernel_rfl) (by kernel_rfl) (by kernel_rfl) (fun _ _ _ h => h) rfl rfl ⟨hB, h0⟩ (fun w' h' => exec_fieldAddr 36 _ 2 rfl _ (by kernel_rfl)) ?_
        go_frame
        refine y_yield 1 (some 44) (.slice (some ⟨b, off, none⟩) ss.length cs) rfl (by kernel_rfl) (by kernel_rfl) (by kernel_rfl) (fun _ _ _ h => h) rfl rfl ⟨hB, h0⟩ (fun w' h' => exec_load_one 33 _ rfl w.heap.size 2 rfl (.slice (some ⟨b, off, none⟩) ss.length cs) _ Try.underlying33 rfl (h'.2.at_ 2)) ?_
        go_frame
        refine y_yield 2 (some 45) (.int .i64 k) rfl (by kernel_rfl) (by kernel_rfl) (by kernel_rfl) (fun _ _ _ h => h) rfl rfl ⟨hB, h0⟩ (fun w' h' => exec_move _ rfl (.int .i64 k) rfl) ?_
        go_frame
        refine y_yield 3 (some 46) (.pointer (some ⟨b, off + k * 3, none⟩)) rfl (by kernel_rfl) (by kernel_rfl) (by kernel_rfl) (fun _ _ _ h => h) rfl rfl ⟨hB, h0⟩ (fun w' h' => exec_index_slice _ 57 _ _ rfl b off ss.length cs k 3 rfl rfl Try.underlying33 (by kernel_rfl) (by omega)) ?_
        go_frame
        refine y_yield 4 (some 47) (.agg #[.int .i64 l, .int .i64 r, .int .i64 f]) rfl (by kernel_rfl) (by kernel_rfl) (by kernel_rfl) (fun _ _ _ h => h) rfl rfl ⟨hB, h0⟩ (fun w' h' => exec_load_3 57 _ rfl b (off + k * 3) rfl l r f _ (RdK.cells_3 (hs.keep h'.1) hlt Hq.out) Try.underlying57 rfl (by kernel_rfl)) ?_
        go_frame
        refine y_yield 5 (some 48) (.pointer (some ⟨w.heap.size, 1, none⟩)) rfl (by kernel_rfl) (by kernel_rfl) (by kernel_rfl) (fun _ _ _ h => h) rfl rfl ⟨hB, h0⟩ (fun w' h' => exec_fieldAddr 36 _ 1 rfl _ (by kernel_rfl)) ?_
        go_frame
        refine y_yield 6 (some 49) (.int .i64 n) rfl (by kernel_rfl) (by kernel_rfl) (by kernel_rfl) (fun _ _ _ h => h) rfl rfl ⟨hB, h0⟩ (fun w' h' => exec_load_one 2 _ rfl w.heap.size 1 rfl (.int .i64 n) _ Try.underlying2 rfl (h'.2.at_ 1)) ?_
        go_frame
        refine y_yield 7 (some 50) (.int .i64 k) rfl (by kernel_rfl) (by kernel_rfl) (by kernel_rfl) (fun _ _ _ h => h) rfl rfl ⟨hB, h0⟩ (fun w' h' => exec_move _ rfl (.int .i64 k) rfl) ?_
        go_frame
        refine y_yield 8 (some 51) (.int .i64 (n + k)) rfl (by kernel_rfl) (by kernel_rfl) (by kernel_rfl) (fun _ _ _ h => h) rfl rfl ⟨hB, h0⟩ (fun w' h' => exec_add _ _ _ _ rfl n k (n + k) rfl rfl (IntWalk.i64_in _ (by omega))) ?_
        go_frame
        refine y_yield 9 (some 52) (.int .i64 ((n + k) - 1)) rfl (by kernel_rfl) (by kernel_rfl) (by kernel_rfl) (fun _ _ _ h => h) rfl rfl ⟨hB, h0⟩ (fun w' h' => exec_sub _ _ _ _ rfl ((n + k)) 1 ((n + k) - 1) rfl rfl (IntWalk.i64_in _ (by omega))) ?_
        go_frame
        refine y_oper 10 (by kernel_rfl) rfl rfl (fun K' hK' => ?_)
        have lz15 := hB.size
        have lz16 := h0.lt
        refine wp_new (some 4) rfl (al_impl_Step rfl) (fun Wz17 nnz18 => ?_)
        have bz19 := nnz18.below (Below.refl _ _) (Nat.le_refl _)
        replace hB := below_after hB bz19
        replace h0 := h0.after bz19
        have hz20 : At Wz17 wdz14.heap.size (.cells #[.int .i64 0, .int .i64 0, .int .i64 0] 57 (0, 0)) := nnz18.at_
        refine hK' _ _ ⟨hB, h0⟩ (fun _ => trivial) ?_
        clear hK' K' nnz18 bz19
        go_frame
        refine y_oper 11 (by kernel_rfl) rfl rfl (fun K' hK' => ?_)
        refine wp_store_all 57 _ _ rfl rfl wdz14.heap.size rfl #[.int .i64 l, .int .i64 r, .int .i64 f] rfl _ _ hz20 3 (by kernel_rfl) rfl rfl (by intro x hx; simp at hx; rcases hx with rfl | rfl | rfl <;> rfl) (fun Wz21 pz22 => ?_)
        replace hB := pz22.below hB (by omega)
        replace h0 := pz22.other h0 (by omega)
        replace hz20 : At Wz21 wdz14.heap.size (.cells #[.int .i64 l, .int .i64 r, .int .i64 f] 57 (0, 0)) := pz22.at_
        refine hK' _ _ ⟨hB, h0⟩ (fun _ => trivial) ?_
        clear hK' K' pz22
        refine y_oper 12 (by kernel_rfl) rfl rfl (fun K' hK' => ?_)
        refine wp_exec (some 5) rfl (.int .i64 ((n + k) - 1)) (exec_assign _ rfl (.int .i64 ((n + k) - 1)) rfl) ?_
        refine hK' _ _ ⟨hB, h0⟩ (fun _ => trivial) ?_
        clear hK' K'
        go_frame
        refine y_done (by kernel_rfl) ?_ _
        go_upto_region 7 with (fail)
        refine wp_region_lit ?_
        refine ls_ex (some 53) (.pointer (some ⟨wdz14.heap.size, 0, none⟩)) rfl rfl (exec_fieldAddr 57 _ 0 rfl _ (by kernel_rfl)) ?_
        go_frame
        refine ls_ex (some 54) (.int .i64 l) rfl rfl (exec_load_one 2 _ rfl wdz14.heap.size 0 rfl (.int .i64 l) _ Try.underlying2 rfl (hz20.at_ 0)) ?_
        go_frame
        refine ls_ex (some 55) (.int .i64 ((n + k) - 1)) rfl rfl (exec_move _ rfl (.int .i64 ((n + k) - 1)) rfl) ?_
        go_frame
        refine ls_op rfl (fun K' hK' => ?_)
        have lz25 := hB.size
        have lz26 := h0.lt
        have lz27 := hz20.lt
        refine wp_call3 (some 56) rfl 29 _ _ _ _ rfl (fun args w => by kernel_rfl) _ _ _ rfl rfl rfl _ (l01In_c l 0 (((n + k) - 1)) _) (fun e Wz23 h => ?_)
        obtain ⟨rfl, rfl⟩ := h
        rw [HL.out]
        refine ⟨_, rfl, ?_⟩
        refine hK' _ _ ?_
        clear hK' K'
        go_frame
        refine ls_ex (some 57) (.bool true) rfl rfl (exec_not _ _ rfl false rfl) ?_
        go_frame
        refine ls_ex (some 58) (.bool true) rfl rfl (exec_move _ rfl (.bool true) rfl) ?_
        go_frame
        refine ls_skip_g (some 59) rfl rfl ?_
        go_frame
        refine ls_skip_g (some 60) rfl rfl ?_
        go_frame
        refine ls_skip_g (some 61) rfl rfl ?_
        go_frame
        refine ls_skip_g (some 62) rfl rfl ?_
        go_frame
        refine ls_skip_g (some 63) rfl rfl ?_
        go_frame
        refine ls_ex (some 64) (.bool true) rfl rfl (exec_pick _ _ _ rfl true rfl (.bool true) rfl) ?_
        go_frame
        refine ls_ex (some 65) (.bool true) rfl rfl (exec_move _ rfl (.bool true) rfl) ?_
        go_frame
        refine ls_skip_g (some 66) rfl rfl ?_
        go_frame
        refine ls_skip_g (some 67) rfl rfl ?_
        go_frame
        refine ls_skip_g (some 68) rfl rfl ?_
        go_frame
        refine ls_skip_g (some 69) rfl rfl ?_
        go_frame
        refine ls_skip_g (some 70) rfl rfl ?_
        go_frame
        refine ls_ex (some 71) (.bool true) rfl rfl (exec_pick _ _ _ rfl true rfl (.bool true) rfl) ?_
        go_frame
        refine ls_ex (some 72) (.bool true) rfl rfl (exec_move _ rfl (.bool true) rfl) ?_
        go_frame
        refine ls_skip_g (some 73) rfl rfl ?_
        go_frame
        refine ls_skip_g (some 74) rfl rfl ?_
        go_frame
        refine ls_skip_g (some 75) rfl rfl ?_
        go_frame
        refine ls_skip_g (some 76) rfl rfl ?_
        go_frame
        refine ls_skip_g (some 77) rfl rfl ?_
        go_frame
        refine ls_skip_g (some 78) rfl rfl ?_
        go_frame
        refine ls_skip_g (some 79) rfl rfl ?_
        go_frame
        refine ls_ex (some 80) (.bool true) rfl rfl (exec_pick _ _ _ rfl true rfl (.bool true) rfl) ?_
        go_frame
        refine wpList_nil ?_
        go_upto_region 8 with (fail)
        refine wp_region_lit ?_
        refine ls_ex (some 2) (.bool false) rfl rfl (exec_assign _ rfl (.bool false) rfl) ?_
        go_frame
        refine wpList_nil ?_
        go_wp2_with fail
        go_ret
        exact ⟨by rw [HNo.out]; rfl, hB⟩
      | true =>
        cases hr : (decide (0 ≤ r) && decide (r ≤ n + k - 1)) with
        | false =>
          have HNo : Hid (progB p n ss os = false) := Lib.hid (progB_noS hlt (by rw [hq, stepB_sp, hl, hr]; simp))
          clear hq
          have HL := Lib.hid hl
          have HR := Lib.hid hr
          clear hl hr
          go_upto_region 4 with (fail)
          refine wp_region_lit ?_
          refine ls_ex (some 36) (.int .i64 k) rfl rfl (exec_move _ rfl (.int .i64 k) rfl) ?_
          go_frame
          refine ls_ex (some 37) (.pointer (some ⟨w.heap.size, 2, none⟩)) rfl rfl (exec_fieldAddr 36 _ 2 rfl _ (by kernel_rfl)) ?_
          go_frame
          refine ls_ex (some 38) (.slice (some ⟨b, off, none⟩) ss.length cs) rfl rfl (exec_load_one 33 _ rfl w.heap.size 2 rfl (.slice (some ⟨b, off, none⟩) ss.length cs) _ Try.underlying33 rfl (h0.at_ 2)) ?_
          go_frame
          refine ls_ex (some 39) (.int .i64 ss.length) rfl rfl (exec_len _ 33 57 rfl ((some ⟨b, off, none⟩)) ss.length cs rfl Try.underlying33) ?_
          go_frame
          refine ls_ex (some 40) (.bool true) rfl rfl (exec_lss _ _ _ _ rfl k ss.length rfl rfl true (decide_eq_true (by omega))) ?_
          go_frame
          refine wpList_nil ?_
          go_upto_region 6 with (fail)
          refine wp_region_y (zs := []) (S := fun w' => Below w.heap.size w w' ∧ At w' w.heap.size (.cells #[.int .i64 p, .int .i64 n, .slice (some ⟨b, off, none⟩) ss.length cs, .slice Ao os.length co] 36 (0, 0))) (S2 := fun w' => True) (by kernel_rfl) ?_
          change wpAnyY _ _ _ _ _ _ _ _ _ _ (World.drew _)
          generalize hwdz28 : World.drew _ = wdz28
          replace hB : Below w.heap.size w wdz28 := by rw [← hwdz28]; exact hB.drew
          replace h0 : At wdz28 w.heap.size (.cells #[.int .i64 p, .int .i64 n, .slice (some ⟨b, off, none⟩) ss.length cs, .slice Ao os.length co] 36 (0, 0)) := by rw [← hwdz28]; exact h0
          clear hwdz28
          refine y_yield 0 (some 43) (.pointer (some ⟨w.heap.size, 2, none⟩)) rfl (by kernel_rfl) (by kernel_rfl) (by kernel_rfl) (fun _ _ _ h => h) rfl rfl ⟨hB, h0⟩ (fun w' h' => exec_fieldAddr 36 _ 2 rfl _ (by kernel_rfl)) ?_
          go_frame
          refine y_yield 1 (some 44) (.slice (some ⟨b, off, none⟩) ss.length cs) rfl (by kernel_rfl) (by kernel_rfl) (by kernel_rfl) (fun _ _ _ h => h) rfl rfl ⟨hB, h0⟩ (fun w' h' => exec_load_one 33 _ rfl w.heap.size 2 rfl (.slice (some ⟨b, off, none⟩) ss.length cs) _ Try.underlying33 rfl (h'.2.at_ 2)) ?_
          go_frame
          refine y_yield 2 (some 45) (.int .i64 k) rfl (by kernel_rfl) (by kernel_rfl) (by kernel_rfl) (fun _ _ _ h => h) rfl rfl ⟨hB, h0⟩ (fun w' h' => exec_move _ rfl (.int .i64 k) rfl) ?_
          go_frame
          refine y_yield 3 (some 46) (.pointer (some ⟨b, off + k * 3, none⟩)) rfl (by kernel_rfl) (by kernel_rfl) (by kernel_rfl) (fun _ _ _ h => h) rfl rfl ⟨hB, h0⟩ (fun w' h' => exec_index_slice _ 57 _ _ rfl b off ss.length cs k 3 rfl rfl Try.underlying33 (by kernel_rfl) (by omega)) ?_
          go_frame
          refine y_yield 4 (some 47) (.agg #[.int .i64 l, .int .i64 r, .int .i64 f]) rfl (by kernel_rfl) (by kernel_rfl) (by kernel_rfl) (fun _ _ _ h => h) rfl rfl ⟨hB, h0⟩ (fun w' h' => exec_load_3 57 _ rfl b (off + k * 3) rfl l r f _ (RdK.cells_3 (hs.keep h'.1) hlt Hq.out) Try.underlying57 rfl (by kernel_rfl)) ?_
          go_frame
          refine y_yield 5 (some 48) (.pointer (some ⟨w.heap.size, 1, none⟩)) rfl (by kernel_rfl) (by kernel_rfl) (by kernel_rfl) (fun _ _ _ h => h) rfl rfl ⟨hB, h0⟩ (fun w' h' => exec_fieldAddr 36 _ 1 rfl _ (by kernel_rfl)) ?_
          go_frame
          refine y_yield 6 (some 49) (.int .i64 n) rfl (by kernel_rfl) (by kernel_rfl) (by kernel_rfl) (fun _ _ _ h => h) rfl rfl ⟨hB, h0⟩ (fun w' h' => exec_load_one 2 _ rfl w.heap.size 1 rfl (.int .i64 n) _ Try.underlying2 rfl (h'.2.at_ 1)) ?_
          go_frame
          refine y_yield 7 (some 50) (.int .i64 k) rfl (by kernel_rfl) (by kernel_rfl) (by kernel_rfl) (fun _ _ _ h => h) rfl rfl ⟨hB, h0⟩ (fun w' h' => exec_move _ rfl (.int .i64 k) rfl) ?_
          go_frame
          refine y_yield 8 (some 51) (.int .i64 (n + k)) rfl (by kernel_rfl) (by kernel_rfl) (by kernel_rfl) (fun _ _ _ h => h) rfl rfl ⟨hB, h0⟩ (fun w' h' => exec_add _ _ _ _ rfl n k (n + k) rfl rfl (IntWalk.i64_in _ (by omega))) ?_
          go_frame
          refine y_yield 9 (some 52) (.int .i64 ((n + k) - 1)) rfl (by kernel_rfl) (by kernel_rfl) (by kernel_rfl) (fun _ _ _ h => h) rfl rfl ⟨hB, h0⟩ (fun w' h' => exec_sub _ _ _ _ rfl ((n + k)) 1 ((n + k) - 1) rfl rfl (IntWalk.i64_in _ (by omega))) ?_
          go_frame
          refine y_oper 10 (by kernel_rfl) rfl rfl (fun K' hK' => ?_)
          have lz29 := hB.size
          have lz30 := h0.lt
          refine wp_new (some 4) rfl (al_impl_Step rfl) (fun Wz31 nnz32 => ?_)
          have bz33 := nnz32.below (Below.refl _ _) (Nat.le_refl _)
          replace hB := below_after hB bz33
          replace h0 := h0.after bz33
          have hz34 : At Wz31 wdz28.heap.size (.cells #[.int .i64 0, .int .i64 0, .int .i64 0] 57 (0, 0)) := nnz32.at_
          refine hK' _ _ ⟨hB, h0⟩ (fun _ => trivial) ?_
          clear hK' K' nnz32 bz33
          go_frame
          refine y_oper 11 (by kernel_rfl) rfl rfl (fun K' hK' => ?_)
          refine wp_store_all 57 _ _ rfl rfl wdz28.heap.size rfl #[.int .i64 l, .int .i64 r, .int .i64 f] rfl _ _ hz34 3 (by kernel_rfl) rfl rfl (by intro x hx; simp at hx; rcases hx with rfl | rfl | rfl <;> rfl) (fun Wz35 pz36 => ?_)
          replace hB := pz36.below hB (by omega)
          replace h0 := pz36.other h0 (by omega)
          replace hz34 : At Wz35 wdz28.heap.size (.cells #[.int .i64 l, .int .i64 r, .int .i64 f] 57 (0, 0)) := pz36.at_
          refine hK' _ _ ⟨hB, h0⟩ (fun _ => trivial) ?_
          clear hK' K' pz36
          refine y_oper 12 (by kernel_rfl) rfl rfl (fun K' hK' => ?_)
          refine wp_exec (some 5) rfl (.int .i64 ((n + k) - 1)) (exec_assign _ rfl (.int .i64 ((n + k) - 1)) rfl) ?_
          refine hK' _ _ ⟨hB, h0⟩ (fun _ => trivial) ?_
          clear hK' K'
          go_frame
          refine y_done (by kernel_rfl) ?_ _
          go_upto_region 7 with (fail)
          refine wp_region_lit ?_
          refine ls_ex (some 53) (.pointer (some ⟨wdz28.heap.size, 0, none⟩)) rfl rfl (exec_fieldAddr 57 _ 0 rfl _ (by kernel_rfl)) ?_
          go_frame
          refine ls_ex (some 54) (.int .i64 l) rfl rfl (exec_load_one 2 _ rfl wdz28.heap.size 0 rfl (.int .i64 l) _ Try.underlying2 rfl (hz34.at_ 0)) ?_
          go_frame
          refine ls_ex (some 55) (.int .i64 ((n + k) - 1)) rfl rfl (exec_move _ rfl (.int .i64 ((n + k) - 1)) rfl) ?_
          go_frame
          refine ls_op rfl (fun K' hK' => ?_)
          have lz39 := hB.size
          have lz40 := h0.lt
          have lz41 := hz34.lt
          refine wp_call3 (some 56) rfl 29 _ _ _ _ rfl (fun args w => by kernel_rfl) _ _ _ rfl rfl rfl _ (l01In_c l 0 (((n + k) - 1)) _) (fun e Wz37 h => ?_)
          obtain ⟨rfl, rfl⟩ := h
          rw [HL.out]
          refine ⟨_, rfl, ?_⟩
          refine hK' _ _ ?_
          clear hK' K'
          go_frame
          refine ls_ex (some 57) (.bool false) rfl rfl (exec_not _ _ rfl true rfl) ?_
          go_frame
          refine ls_ex (some 58) (.bool false) rfl rfl (exec_move _ rfl (.bool false) rfl) ?_
          go_frame
          refine ls_ex_g (some 59) (.pointer (some ⟨wdz28.heap.size, 1, none⟩)) rfl rfl (exec_fieldAddr 57 _ 1 rfl _ (by kernel_rfl)) ?_
          go_frame
          refine ls_ex_g (some 60) (.int .i64 r) rfl rfl (exec_load_one 2 _ rfl wdz28.heap.size 1 rfl (.int .i64 r) _ Try.underlying2 rfl (hz34.at_ 1)) ?_
          go_frame
          refine ls_ex_g (some 61) (.int .i64 ((n + k) - 1)) rfl rfl (exec_move _ rfl (.int .i64 ((n + k) - 1)) rfl) ?_
          go_frame
          refine ls_op_g rfl (fun K' hK' => ?_)
          have lz44 := hB.size
          have lz45 := h0.lt
          have lz46 := hz34.lt
          refine wp_call3 (some 62) rfl 29 _ _ _ _ rfl (fun args w => by kernel_rfl) _ _ _ rfl rfl rfl _ (l01In_c r 0 (((n + k) - 1)) _) (fun e Wz42 h => ?_)
          obtain ⟨rfl, rfl⟩ := h
          rw [HR.out]
          refine ⟨_, rfl, ?_⟩
          refine hK' _ _ ?_
          clear hK' K'
          go_frame
          refine ls_ex_g (some 63) (.bool true) rfl rfl (exec_not _ _ rfl false rfl) ?_
          go_frame
          refine ls_ex (some 64) (.bool true) rfl rfl (exec_pick _ _ _ rfl false rfl (.bool true) rfl) ?_
          go_frame
          refine ls_ex (some 65) (.bool true) rfl rfl (exec_move _ rfl (.bool true) rfl) ?_
          go_frame
          refine ls_skip_g (some 66) rfl rfl ?_
          go_frame
          refine ls_skip_g (some 67) rfl rfl ?_
          go_frame
          refine ls_skip_g (some 68) rfl rfl ?_
          go_frame
          refine ls_skip_g (some 69) rfl rfl ?_
          go_frame
          refine ls_skip_g (some 70) rfl rfl ?_
          go_frame
          refine ls_ex (some 71) (.bool true) rfl rfl (exec_pick _ _ _ rfl true rfl (.bool true) rfl) ?_
          go_frame
          refine ls_ex (some 72) (.bool true) rfl rfl (exec_move _ rfl (.bool true) rfl) ?_
          go_frame
          refine ls_skip_g (some 73) rfl rfl ?_
          go_frame
          refine ls_skip_g (some 74) rfl rfl ?_
          go_frame
          refine ls_skip_g (some 75) rfl rfl ?_
          go_frame
          refine ls_skip_g (some 76) rfl rfl ?_
          go_frame
          refine ls_skip_g (some 77) rfl rfl ?_
          go_frame
          refine ls_skip_g (some 78) rfl rfl ?_
          go_frame
          refine ls_skip_g (some 79) rfl rfl ?_
          go_frame
          refine ls_ex (some 80) (.bool true) rfl rfl (exec_pick _ _ _ rfl true rfl (.bool true) rfl) ?_
          go_frame
          refine wpList_nil ?_
          go_upto_region 8 with (fail)
          refine wp_region_lit ?_
          refine ls_ex (some 2) (.bool false) rfl rfl (exec_assign _ rfl (.bool false) rfl) ?_
          go_frame
          refine wpList_nil ?_
          go_wp2_with fail
          go_ret
          exact ⟨by rw [HNo.out]; rfl, hB⟩
        | true =>
          cases he : (l == r) with
          | true =>
            have HNo : Hid (progB p n ss os = false) := Lib.hid (progB_noS hlt (by rw [hq, stepB_sp, hl, hr, he]; simp))
            clear hq
            have HL := Lib.hid hl
            have HR := Lib.hid hr
            have HE := Lib.hid he
            clear hl hr he
            go_upto_region 4 with (fail)
            refine wp_region_lit ?_
            refine ls_ex (some 36) (.int .i64 k) rfl rfl (exec_move _ rfl (.int .i64 k) rfl) ?_
            go_frame
            refine ls_ex (some 37) (.pointer (some ⟨w.heap.size, 2, none⟩)) rfl rfl (exec_fieldAddr 36 _ 2 rfl _ (by kernel_rfl)) ?_
            go_frame
            refine ls_ex (some 38) (.slice (some ⟨b, off, none⟩) ss.length cs) rfl rfl (exec_load_one 33 _ rfl w.heap.size 2 rfl (.slice (some ⟨b, off, none⟩) ss.length cs) _ Try.underlying33 rfl (h0.at_ 2)) ?_
            go_frame
            refine ls_ex (some 39) (.int .i64 ss.length) rfl rfl (exec_len _ 33 57 rfl ((some ⟨b, off, none⟩)) ss.length cs rfl Try.underlying33) ?_
            go_frame
            refine ls_ex (some 40) (.bool true) rfl rfl (exec_lss _ _ _ _ rfl k ss.length rfl rfl true (decide_eq_true (by omega))) ?_
            go_frame
            refine wpList_nil ?_
            go_upto_region 6 with (fail)
            refine wp_region_y (zs := []) (S := fun w' => Below w.heap.size w w' ∧ At w' w.heap.size (.cells #[.int .i64 p, .int .i64 n, .slice (some ⟨b, off, none⟩) ss.length cs, .slice Ao os.length co] 36 (0, 0))) (S2 := fun w' => True) (by kernel_rfl) ?_
            change wpAnyY _ _ _ _ _ _ _ _ _ _ (World.drew _)
            generalize hwdz47 : World.drew _ = wdz47
            replace hB : Below w.heap.size w wdz47 := by rw [← hwdz47]; exact hB.drew
            replace h0 : At wdz47 w.heap.size (.cells #[.int .i64 p, .int .i64 n, .slice (some ⟨b, off, none⟩) ss.length cs, .slice Ao os.length co] 36 (0, 0)) := by rw [← hwdz47]; exact h0
            clear hwdz47
            refine y_yield 0 (some 43) (.pointer (some ⟨w.heap.size, 2, none⟩)) rfl (by kernel_rfl) (by kernel_rfl) (by kernel_rfl) (fun _ _ _ h => h) rfl rfl ⟨hB, h0⟩ (fun w' h' => exec_fieldAddr 36 _ 2 rfl _ (by kernel_rfl)) ?_
            go_frame
            refine y_yield 1 (some 44) (.slice (some ⟨b, off, none⟩) ss.length cs) rfl (by kernel_rfl) (by kernel_rfl) (by kernel_rfl) (fun _ _ _ h => h) rfl rfl ⟨hB, h0⟩ (fun w' h' => exec_load_one 33 _ rfl w.heap.size 2 rfl (.slice (some ⟨b, off, none⟩) ss.length cs) _ Try.underlying33 rfl (h'.2.at_ 2)) ?_
            go_frame
            refine y_yield 2 (some 45) (.int .i64 k) rfl (by kernel_rfl) (by kernel_rfl) (by kernel_rfl) (fun _ _ _ h => h) rfl rfl ⟨hB, h0⟩ (fun w' h' => exec_move _ rfl (.int .i64 k) rfl) ?_
            go_frame
            refine y_yield 3 (some 46) (.pointer (some ⟨b, off + k * 3, none⟩)) rfl (by kernel_rfl) (by kernel_rfl) (by kernel_rfl) (fun _ _ _ h => h) rfl rfl ⟨hB, h0⟩ (fun w' h' => exec_index_slice _ 57 _ _ rfl b off ss.length cs k 3 rfl rfl Try.underlying33 (by kernel_rfl) (by omega)) ?_
            go_frame
            refine y_yield 4 (some 47) (.agg #[.int .i64 l, .int .i64 r, .int .i64 f]) rfl (by kernel_rfl) (by kernel_rfl) (by kernel_rfl) (fun _ _ _ h => h) rfl rfl ⟨hB, h0⟩ (fun w' h' => exec_load_3 57 _ rfl b (off + k * 3) rfl l r f _ (RdK.cells_3 (hs.keep h'.1) hlt Hq.out) Try.underlying57 rfl (by kernel_rfl)) ?_
            go_frame
            refine y_yield 5 (some 48) (.pointer (some ⟨w.heap.size, 1, none⟩)) rfl (by kernel_rfl) (by kernel_rfl) (by kernel_rfl) (fun _ _ _ h => h) rfl rfl ⟨hB, h0⟩ (fun w' h' => exec_fieldAddr 36 _ 1 rfl _ (by kernel_rfl)) ?_
            go_frame
            refine y_yield 6 (some 49) (.int .i64 n) rfl (by kernel_rfl) (by kernel_rfl) (by kernel_rfl) (fun _ _ _ h => h) rfl rfl ⟨hB, h0⟩ (fun w' h' => exec_load_one 2 _ rfl w.heap.size 1 rfl (.int .i64 n) _ Try.underlying2 rfl (h'.2.at_ 1)) ?_
            go_frame
            refine y_yield 7 (some 50) (.int .i64 k) rfl (by kernel_rfl) (by kernel_rfl) (by kernel_rfl) (fun _ _ _ h => h) rfl rfl ⟨hB, h0⟩ (fun w' h' => exec_move _ rfl (.int .i64 k) rfl) ?_
            go_frame
            refine y_yield 8 (some 51) (.int .i64 (n + k)) rfl (by kernel_rfl) (by kernel_rfl) (by kernel_rfl) (fun _ _ _ h => h) rfl rfl ⟨hB, h0⟩ (fun w' h' => exec_add _ _ _ _ rfl n k (n + k) rfl rfl (IntWalk.i64_in _ (by omega))) ?_
            go_frame
            refine y_yield 9 (some 52) (.int .i64 ((n + k) - 1)) rfl (by kernel_rfl) (by kernel_rfl) (by kernel_rfl) (fun _ _ _ h => h) rfl rfl ⟨hB, h0⟩ (fun w' h' => exec_sub _ _ _ _ rfl ((n + k)) 1 ((n + k) - 1) rfl rfl (IntWalk.i64_in _ (by omega))) ?_
            go_frame
            refine y_oper 10 (by kernel_rfl) rfl rfl (fun K' hK' => ?_)
            have lz48 := hB.size
            have lz49 := h0.lt
            refine wp_new (some 4) rfl (al_impl_Step rfl) (fun Wz50 nnz51 => ?_)
            have bz52 := nnz51.below (Below.refl _ _) (Nat.le_refl _)
            replace hB := below_after hB bz52
            replace h0 := h0.after bz52
            have hz53 : At Wz50 wdz47.heap.size (.cells #[.int .i64 0, .int .i64 0, .int .i64 0] 57 (0, 0)) := nnz51.at_
            refine hK' _ _ ⟨hB, h0⟩ (fun _ => trivial) ?_
            clear hK' K' nnz51 bz52
            go_frame
            refine y_oper 11 (by kernel_rfl) rfl rfl (fun K' hK' => ?_)
            refine wp_store_all 57 _ _ rfl rfl wdz47.heap.size rfl #[.int .i64 l, .int .i64 r, .int .i64 f] rfl _ _ hz53 3 (by kernel_rfl) rfl rfl (by intro x hx; simp at hx; rcases hx with rfl | rfl | rfl <;> rfl) (fun Wz54 pz55 => ?_)
            replace hB := pz55.below hB (by omega)
            replace h0 := pz55.other h0 (by omega)
            replace hz53 : At Wz54 wdz47.heap.size (.cells #[.int .i64 l, .int .i64 r, .int .i64 f] 57 (0, 0)) := pz55.at_
            refine hK' _ _ ⟨hB, h0⟩ (fun _ => trivial) ?_
            clear hK' K' pz55
            refine y_oper 12 (by kernel_rfl) rfl rfl (fun K' hK' => ?_)
            refine wp_exec (some 5) rfl (.int .i64 ((n + k) - 1)) (exec_assign _ rfl (.int .i64 ((n + k) - 1)) rfl) ?_
            refine hK' _ _ ⟨hB, h0⟩ (fun _ => trivial) ?_
            clear hK' K'
            go_frame
            refine y_done (by kernel_rfl) ?_ _
            go_upto_region 7 with (fail)
            refine wp_region_lit ?_
            refine ls_ex (some 53) (.pointer (some ⟨wdz47.heap.size, 0, none⟩)) rfl rfl (exec_fieldAddr 57 _ 0 rfl _ (by kernel_rfl)) ?_
            go_frame
            refine ls_ex (some 54) (.int .i64 l) rfl rfl (exec_load_one 2 _ rfl wdz47.heap.size 0 rfl (.int .i64 l) _ Try.underlying2 rfl (hz53.at_ 0)) ?_
            go_frame
            refine ls_ex (some 55) (.int .i64 ((n + k) - 1)) rfl rfl (exec_move _ rfl (.int .i64 ((n + k) - 1)) rfl) ?_
            go_frame
            refine ls_op rfl (fun K' hK' => ?_)
            have lz58 := hB.size
            have lz59 := h0.lt
            have lz60 := hz53.lt
            refine wp_call3 (some 56) rfl 29 _ _ _ _ rfl (fun args w => by kernel_rfl) _ _ _ rfl rfl rfl _ (l01In_c l 0 (((n + k) - 1)) _) (fun e Wz56 h => ?_)
            obtain ⟨rfl, rfl⟩ := h
            rw [HL.out]
            refine ⟨_, rfl, ?_⟩
            refine hK' _ _ ?_
            clear hK' K'
            go_frame
            refine ls_ex (some 57) (.bool false) rfl rfl (exec_not _ _ rfl true rfl) ?_
            go_frame
            refine ls_ex (some 58) (.bool false) rfl rfl (exec_move _ rfl (.bool false) rfl) ?_
            go_frame
            refine ls_ex_g (some 59) (.pointer (some ⟨wdz47.heap.size, 1, none⟩)) rfl rfl (exec_fieldAddr 57 _ 1 rfl _ (by kernel_rfl)) ?_
            go_frame
            refine ls_ex_g (some 60) (.int .i64 r) rfl rfl (exec_load_one 2 _ rfl wdz47.heap.size 1 rfl (.int .i64 r) _ Try.underlying2 rfl (hz53.at_ 1)) ?_
            go_frame
            refine ls_ex_g (some 61) (.int .i64 ((n + k) - 1)) rfl rfl (exec_move _ rfl (.int .i64 ((n + k) - 1)) rfl) ?_
            go_frame
            refine ls_op_g rfl (fun K' hK' => ?_)
            have lz63 := hB.size
            have lz64 := h0.lt
            have lz65 := hz53.lt
            refine wp_call3 (some 62) rfl 29 _ _ _ _ rfl (fun args w => by kernel_rfl) _ _ _ rfl rfl rfl _ (l01In_c r 0 (((n + k) - 1)) _) (fun e Wz61 h => ?_)
            obtain ⟨rfl, rfl⟩ := h
            rw [HR.out]
            refine ⟨_, rfl, ?_⟩
            refine hK' _ _ ?_
            clear hK' K'
            go_frame
            refine ls_ex_g (some 63) (.bool false) rfl rfl (exec_not _ _ rfl true rfl) ?_
            go_frame
            refine ls_ex (some 64) (.bool false) rfl rfl (exec_pick _ _ _ rfl false rfl (.bool false) rfl) ?_
            go_frame
            refine ls_ex (some 65) (.bool false) rfl rfl (exec_move _ rfl (.bool false) rfl) ?_
            go_frame
            refine ls_ex_g (some 66) (.pointer (some ⟨wdz47.heap.size, 0, none⟩)) rfl rfl (exec_fieldAddr 57 _ 0 rfl _ (by kernel_rfl)) ?_
            go_frame
            refine ls_ex_g (some 67) (.int .i64 l) rfl rfl (exec_load_one 2 _ rfl wdz47.heap.size 0 rfl (.int .i64 l) _ Try.underlying2 rfl (hz53.at_ 0)) ?_
            go_frame
            refine ls_ex_g (some 68) (.pointer (some ⟨wdz47.heap.size, 1, none⟩)) rfl rfl (exec_fieldAddr 57 _ 1 rfl _ (by kernel_rfl)) ?_
            go_frame
            refine ls_ex_g (some 69) (.int .i64 r) rfl rfl (exec_load_one 2 _ rfl wdz47.heap.size 1 rfl (.int .i64 r) _ Try.underlying2 rfl (hz53.at_ 1)) ?_
            go_frame
            refine ls_ex_g (some 70) (.bool true) rfl rfl (exec_eql _ _ _ _ rfl l r rfl rfl true HE.out) ?_
            go_frame
            refine ls_ex (some 71) (.bool true) rfl rfl (exec_pick _ _ _ rfl false rfl (.bool true) rfl) ?_
            go_frame
            refine ls_ex (some 72) (.bool true) rfl rfl (exec_move _ rfl (.bool true) rfl) ?_
            go_frame
            refine ls_skip_g (some 73) rfl rfl ?_
            go_frame
            refine ls_skip_g (some 74) rfl rfl ?_
            go_frame
            refine ls_skip_g (some 75) rfl rfl ?_
            go_frame
            refine ls_skip_g (some 76) rfl rfl ?_
            go_frame
            refine ls_skip_g (some 77) rfl rfl ?_
            go_frame
            refine ls_skip_g (some 78) rfl rfl ?_
            go_frame
            refine ls_skip_g (some 79) rfl rfl ?_
            go_frame
            refine ls_ex (some 80) (.bool true) rfl rfl (exec_pick _ _ _ rfl true rfl (.bool true) rfl) ?_
            go_frame
            refine wpList_nil ?_
            go_upto_region 8 with (fail)
            refine wp_region_lit ?_
            refine ls_ex (some 2) (.bool false) rfl rfl (exec_assign _ rfl (.bool false) rfl) ?_
            go_frame
            refine wpList_nil ?_
            go_wp2_with fail
            go_ret
            exact ⟨by rw [HNo.out]; rfl, hB⟩
          | false =>
            cases hf : (decide (1 ≤ f) && decide (f ≤ p - 1)) with
            | false =>
              have HNo : Hid (progB p n ss os = false) := Lib.hid (progB_noS hlt (by rw [hq, stepB_sp, hl, hr, he, hf]; simp))
              clear hq
              have HL := Lib.hid hl
              have HR := Lib.hid hr
              have HE := Lib.hid he
              have HF := Lib.hid hf
              clear hl hr he hf
              go_upto_region 4 with (fail)
              refine wp_region_lit ?_
              refine ls_ex (some 36) (.int .i64 k) rfl rfl (exec_move _ rfl (.int .i64 k) rfl) ?_
              go_frame
              refine ls_ex (some 37) (.pointer (some ⟨w.heap.size, 2, none⟩)) rfl rfl (exec_fieldAddr 36 _ 2 rfl _ (by kernel_rfl)) ?_
              go_frame
              refine ls_ex (some 38) (.slice (some ⟨b, off, none⟩) ss.length cs) rfl rfl (exec_load_one 33 _ rfl w.heap.size 2 rfl (.slice (some ⟨b, off, none⟩) ss.length cs) _ Try.underlying33 rfl (h0.at_ 2)) ?_
              go_frame
              refine ls_ex (some 39) (.int .i64 ss.length) rfl rfl (exec_len _ 33 57 rfl ((some ⟨b, off, none⟩)) ss.length cs rfl Try.underlying33) ?_
              go_frame
              refine ls_ex (some 40) (.bool true) rfl rfl (exec_lss _ _ _ _ rfl k ss.length rfl rfl true (decide_eq_true (by omega))) ?_
              go_frame
              refine wpList_nil ?_
              go_upto_region 6 with (fail)
              refine wp_region_y (zs := []) (S := fun w' => Below w.heap.size w w' ∧ At w' w.heap.size (.cells #[.int .i64 p, .int .i64 n, .slice (some ⟨b, off, none⟩) ss.length cs, .slice Ao os.length co] 36 (0, 0))) (S2 := fun w' => True) (by kernel_rfl) ?_
              change wpAnyY _ _ _ _ _ _ _ _ _ _ (World.drew _)
              generalize hwdz66 : World.drew _ = wdz66
              replace hB : Below w.heap.size w wdz66 := by rw [← hwdz66]; exact hB.drew
              replace h0 : At wdz66 w.heap.size (.cells #[.int .i64 p, .int .i64 n, .slice (some ⟨b, off, none⟩) ss.length cs, .slice Ao os.length co] 36 (0, 0)) := by rw [← hwdz66]; exact h0
              clear hwdz66
              refine y_yield 0 (some 43) (.pointer (some ⟨w.heap.size, 2, none⟩)) rfl (by kernel_rfl) (by kernel_rfl) (by kernel_rfl) (fun _ _ _ h => h) rfl rfl ⟨hB, h0⟩ (fun w' h' => exec_fieldAddr 36 _ 2 rfl _ (by kernel_rfl)) ?_
              go_frame
              refine y_yield 1 (some 44) (.slice (some ⟨b, off, none⟩) ss.length cs) rfl (by kernel_rfl) (by kernel_rfl) (by kernel_rfl) (fun _ _ _ h => h) rfl rfl ⟨hB, h0⟩ (fun w' h' => exec_load_one 33 _ rfl w.heap.size 2 rfl (.slice (some ⟨b, off, none⟩) ss.length cs) _ Try.underlying33 rfl (h'.2.at_ 2)) ?_
              go_frame
              refine y_yield 2 (some 45) (.int .i64 k) rfl (by kernel_rfl) (by kernel_rfl) (by kernel_rfl) (fun _ _ _ h => h) rfl rfl ⟨hB, h0⟩ (fun w' h' => exec_move _ rfl (.int .i64 k) rfl) ?_
              go_frame
              refine y_yield 3 (some 46) (.pointer (some ⟨b, off + k * 3, none⟩)) rfl (by kernel_rfl) (by kernel_rfl) (by kernel_rfl) (fun _ _ _ h => h) rfl rfl ⟨hB, h0⟩ (fun w' h' => exec_index_slice _ 57 _ _ rfl b off ss.length cs k 3 rfl rfl Try.underlying33 (by kernel_rfl) (by omega)) ?_
              go_frame
              refine y_yield 4 (some 47) (.agg #[.int .i64 l, .int .i64 r, .int .i64 f]) rfl (by kernel_rfl) (by kernel_rfl) (by kernel_rfl) (fun _ _ _ h => h) rfl rfl ⟨hB, h0⟩ (fun w' h' => exec_load_3 57 _ rfl b (off + k * 3) rfl l r f _ (RdK.cells_3 (hs.keep h'.1) hlt Hq.out) Try.underlying57 rfl (by kernel_rfl)) ?_
              go_frame
              refine y_yield 5 (some 48) (.pointer (some ⟨w.heap.size, 1, none⟩)) rfl (by kernel_rfl) (by kernel_rfl) (by kernel_rfl) (fun _ _ _ h => h) rfl rfl ⟨hB, h0⟩ (fun w' h' => exec_fieldAddr 36 _ 1 rfl _ (by kernel_rfl)) ?_
              go_frame
              refine y_yield 6 (some 49) (.int .i64 n) rfl (by kernel_rfl) (by kernel_rfl) (by kernel_rfl) (fun _ _ _ h => h) rfl rfl ⟨hB, h0⟩ (fun w' h' => exec_load_one 2 _ rfl w.heap.size 1 rfl (.int .i64 n) _ Try.underlying2 rfl (h'.2.at_ 1)) ?_
              go_frame
              refine y_yield 7 (some 50) (.int .i64 k) rfl (by kernel_rfl) (by kernel_rfl) (by kernel_rfl) (fun _ _ _ h => h) rfl rfl ⟨hB, h0⟩ (fun w' h' => exec_move _ rfl (.int .i64 k) rfl) ?_
              go_frame
              refine y_yield 8 (some 51) (.int .i64 (n + k)) rfl (by kernel_rfl) (by kernel_rfl) (by kernel_rfl) (fun _ _ _ h => h) rfl rfl ⟨hB, h0⟩ (fun w' h' => exec_add _ _ _ _ rfl n k (n + k) rfl rfl (IntWalk.i64_in _ (by omega))) ?_
              go_frame
              refine y_yield 9 (some 52) (.int .i64 ((n + k) - 1)) rfl (by kernel_rfl) (by kernel_rfl) (by kernel_rfl) (fun _ _ _ h => h) rfl rfl ⟨hB, h0⟩ (fun w' h' => exec_sub _ _ _ _ rfl ((n + k)) 1 ((n + k) - 1) rfl rfl (IntWalk.i64_in _ (by omega))) ?_
              go_frame
              refine y_oper 10 (by kernel_rfl) rfl rfl (fun K' hK' => ?_)
              have lz67 := hB.size
              have lz68 := h0.lt
              refine wp_new (some 4) rfl (al_impl_Step rfl) (fun Wz69 nnz70 => ?_)
              have bz71 := nnz70.below (Below.refl _ _) (Nat.le_refl _)
              replace hB := below_after hB bz71
              replace h0 := h0.after bz71
              have hz72 : At Wz69 wdz66.heap.size (.cells #[.int .i64 0, .int .i64 0, .int .i64 0] 57 (0, 0)) := nnz70.at_
              refine hK' _ _ ⟨hB, h0⟩ (fun _ => trivial) ?_
              clear hK' K' nnz70 bz71
              go_frame
              refine y_oper 11 (by kernel_rfl) rfl rfl (fun K' hK' => ?_)
              refine wp_store_all 57 _ _ rfl rfl wdz66.heap.size rfl #[.int .i64 l, .int .i64 r, .int .i64 f] rfl _ _ hz72 3 (by kernel_rfl) rfl rfl (by intro x hx; simp at hx; rcases hx with rfl | rfl | rfl <;> rfl) (fun Wz73 pz74 => ?_)
              replace hB := pz74.below hB (by omega)
              replace h0 := pz74.other h0 (by omega)
              replace hz72 : At Wz73 wdz66.heap.size (.cells #[.int .i64 l, .int .i64 r, .int .i64 f] 57 (0, 0)) := pz74.at_
              refine hK' _ _ ⟨hB, h0⟩ (fun _ => trivial) ?_
              clear hK' K' pz74
              refine y_oper 12 (by kernel_rfl) rfl rfl (fun K' hK' => ?_)
              refine wp_exec (some 5) rfl (.int .i64 ((n + k) - 1)) (exec_assign _ rfl (.int .i64 ((n + k) - 1)) rfl) ?_
              refine hK' _ _ ⟨hB, h0⟩ (fun _ => trivial) ?_
              clear hK' K'
              go_frame
              refine y_done (by kernel_rfl) ?_ _
              go_upto_region 7 with (fail)
              refine wp_region_lit ?_
              refine ls_ex (some 53) (.pointer (some ⟨wdz66.heap.size, 0, none⟩)) rfl rfl (exec_fieldAddr 57 _ 0 rfl _ (by kernel_rfl)) ?_
              go_frame
              refine ls_ex (some 54) (.int .i64 l) rfl rfl (exec_load_one 2 _ rfl wdz66.heap.size 0 rfl (.int .i64 l) _ Try.underlying2 rfl (hz72.at_ 0)) ?_
              go_frame
              refine ls_ex (some 55) (.int .i64 ((n + k) - 1)) rfl rfl (exec_move _ rfl (.int .i64 ((n + k) - 1)) rfl) ?_
              go_frame
              refine ls_op rfl (fun K' hK' => ?_)
              have lz77 := hB.size
              have lz78 := h0.lt
              have lz79 := hz72.lt
              refine wp_call3 (some 56) rfl 29 _ _ _ _ rfl (fun args w => by kernel_rfl) _ _ _ rfl rfl rfl _ (l01In_c l 0 (((n + k) - 1)) _) (fun e Wz75 h => ?_)
              obtain ⟨rfl, rfl⟩ := h
              rw [HL.out]
              refine ⟨_, rfl, ?_⟩
              refine hK' _ _ ?_
              clear hK' K'
              go_frame
              refine ls_ex (some 57) (.bool false) rfl rfl (exec_not _ _ rfl true rfl) ?_
              go_frame
              refine ls_ex (some 58) (.bool false) rfl rfl (exec_move _ rfl (.bool false) rfl) ?_
              go_frame
              refine ls_ex_g (some 59) (.pointer (some ⟨wdz66.heap.size, 1, none⟩)) rfl rfl (exec_fieldAddr 57 _ 1 rfl _ (by kernel_rfl)) ?_
              go_frame
              refine ls_ex_g (some 60) (.int .i64 r) rfl rfl (exec_load_one 2 _ rfl wdz66.heap.size 1 rfl (.int .i64 r) _ Try.underlying2 rfl (hz72.at_ 1)) ?_
              go_frame
              refine ls_ex_g (some 61) (.int .i64 ((n + k) - 1)) rfl rfl (exec_move _ rfl (.int .i64 ((n + k) - 1)) rfl) ?_
              go_frame
              refine ls_op_g rfl (fun K' hK' => ?_)
              have lz82 := hB.size
              have lz83 := h0.lt
              have lz84 := hz72.lt
              refine wp_call3 (some 62) rfl 29 _ _ _ _ rfl (fun args w => by kernel_rfl) _ _ _ rfl rfl rfl _ (l01In_c r 0 (((n + k) - 1)) _) (fun e Wz80 h => ?_)
              obtain ⟨rfl, rfl⟩ := h
              rw [HR.out]
              refine ⟨_, rfl, ?_⟩
              refine hK' _ _ ?_
              clear hK' K'
              go_frame
              refine ls_ex_g (some 63) (.bool false) rfl rfl (exec_not _ _ rfl true rfl) ?_
              go_frame
              refine ls_ex (some 64) (.bool false) rfl rfl (exec_pick _ _ _ rfl false rfl (.bool false) rfl) ?_
              go_frame
              refine ls_ex (some 65) (.bool false) rfl rfl (exec_move _ rfl (.bool false) rfl) ?_
              go_frame
              refine ls_ex_g (some 66) (.pointer (some ⟨wdz66.heap.size, 0, none⟩)) rfl rfl (exec_fieldAddr 57 _ 0 rfl _ (by kernel_rfl)) ?_
              go_frame
              refine ls_ex_g (some 67) (.int .i64 l) rfl rfl (exec_load_one 2 _ rfl wdz66.heap.size 0 rfl (.int .i64 l) _ Try.underlying2 rfl (hz72.at_ 0)) ?_
              go_frame
              refine ls_ex_g (some 68) (.pointer (some ⟨wdz66.heap.size, 1, none⟩)) rfl rfl (exec_fieldAddr 57 _ 1 rfl _ (by kernel_rfl)) ?_
              go_frame
              refine ls_ex_g (some 69) (.int .i64 r) rfl rfl (exec_load_one 2 _ rfl wdz66.heap.size 1 rfl (.int .i64 r) _ Try.underlying2 rfl (hz72.at_ 1)) ?_
              go_frame
              refine ls_ex_g (some 70) (.bool false) rfl rfl (exec_eql _ _ _ _ rfl l r rfl rfl false HE.out) ?_
              go_frame
              refine ls_ex (some 71) (.bool false) rfl rfl (exec_pick _ _ _ rfl false rfl (.bool false) rfl) ?_
              go_frame
              refine ls_ex (some 72) (.bool false) rfl rfl (exec_move _ rfl (.bool false) rfl) ?_
              go_frame
              refine ls_ex_g (some 73) (.pointer (some ⟨wdz66.heap.size, 2, none⟩)) rfl rfl (exec_fieldAddr 57 _ 2 rfl _ (by kernel_rfl)) ?_
              go_frame
              refine ls_ex_g (some 74) (.int .i64 f) rfl rfl (exec_load_one 2 _ rfl wdz66.heap.size 2 rfl (.int .i64 f) _ Try.underlying2 rfl (hz72.at_ 2)) ?_
              go_frame
              refine ls_ex_g (some 75) (.pointer (some ⟨w.heap.size, 0, none⟩)) rfl rfl (exec_fieldAddr 36 _ 0 rfl _ (by kernel_rfl)) ?_
              go_frame
              refine ls_ex_g (some 76) (.int .i64 p) rfl rfl (exec_load_one 2 _ rfl w.heap.size 0 rfl (.int .i64 p) _ Try.underlying2 rfl (h0.at_ 0)) ?_
              go_frame
              refine ls_ex_g (some 77) (.int .i64 (p - 1)) rfl rfl (exec_sub _ _ _ _ rfl p 1 (p - 1) rfl rfl (IntWalk.i64_in _ (by omega))) ?_
              go_frame
              refine ls_op_g rfl (fun K' hK' => ?_)
              have lz87 := hB.size
              have lz88 := h0.lt
              have lz89 := hz72.lt
              refine wp_call3 (some 78) rfl 29 _ _ _ _ rfl (fun args w => by kernel_rfl) _ _ _ rfl rfl rfl _ (l01In_c f 1 ((p - 1)) _) (fun e Wz85 h => ?_)
              obtain ⟨rfl, rfl⟩ := h
              rw [HF.out]
              refine ⟨_, rfl, ?_⟩
              refine hK' _ _ ?_
              clear hK' K'
              go_frame
              refine ls_ex_g (some 79) (.bool true) rfl rfl (exec_not _ _ rfl false rfl) ?_
              go_frame
              refine ls_ex (some 80) (.bool true) rfl rfl (exec_pick _ _ _ rfl false rfl (.bool true) rfl) ?_
              go_frame
              refine wpList_nil ?_
              go_upto_region 8 with (fail)
              refine wp_region_lit ?_
              refine ls_ex (some 2) (.bool false) rfl rfl (exec_assign _ rfl (.bool false) rfl) ?_
              go_frame
              refine wpList_nil ?_
              go_wp2_with fail
              go_ret
              exact ⟨by rw [HNo.out]; rfl, hB⟩
            | true =>
              have HY : Hid (stepsB p n ss (k + 1) = true) := Lib.hid (stepsB_step hlt HG.out (by rw [hq, stepB_sp, hl, hr, he, hf]; rfl))
              clear hq
              have HL := Lib.hid hl
              have HR := Lib.hid hr
              have HE := Lib.hid he
              have HF := Lib.hid hf
              clear hl hr he hf
              go_upto_region 4 with (fail)
              refine wp_region_lit ?_
              refine ls_ex (some 36) (.int .i64 k) rfl rfl (exec_move _ rfl (.int .i64 k) rfl) ?_
              go_frame
              refine ls_ex (some 37) (.pointer (some ⟨w.heap.size, 2, none⟩)) rfl rfl (exec_fieldAddr 36 _ 2 rfl _ (by kernel_rfl)) ?_
              go_frame
              refine ls_ex (some 38) (.slice (some ⟨b, off, none⟩) ss.length cs) rfl rfl (exec_load_one 33 _ rfl w.heap.size 2 rfl (.slice (some ⟨b, off, none⟩) ss.length cs) _ Try.underlying33 rfl (h0.at_ 2)) ?_
              go_frame
              refine ls_ex (some 39) (.int .i64 ss.length) rfl rfl (exec_len _ 33 57 rfl ((some ⟨b, off, none⟩)) ss.length cs rfl Try.underlying33) ?_
              go_frame
              refine ls_ex (some 40) (.bool true) rfl rfl (exec_lss _ _ _ _ rfl k ss.length rfl rfl true (decide_eq_true (by omega))) ?_
              go_frame
              refine wpList_nil ?_
              go_upto_region 6 with (fail)
              refine wp_region_y (zs := []) (S := fun w' => Below w.heap.size w w' ∧ At w' w.heap.size (.cells #[.int .i64 p, .int .i64 n, .slice (some ⟨b, off, none⟩) ss.length cs, .slice Ao os.length co] 36 (0, 0))) (S2 := fun w' => True) (by kernel_rfl) ?_
              change wpAnyY _ _ _ _ _ _ _ _ _ _ (World.drew _)
              generalize hwdz90 : World.drew _ = wdz90
              replace hB : Below w.heap.size w wdz90 := by rw [← hwdz90]; exact hB.drew
              replace h0 : At wdz90 w.heap.size (.cells #[.int .i64 p, .int .i64 n, .slice (some ⟨b, off, none⟩) ss.length cs, .slice Ao os.length co] 36 (0, 0)) := by rw [← hwdz90]; exact h0
              clear hwdz90
              refine y_yield 0 (some 43) (.pointer (some ⟨w.heap.size, 2, none⟩)) rfl (by kernel_rfl) (by kernel_rfl) (by kernel_rfl) (fun _ _ _ h => h) rfl rfl ⟨hB, h0⟩ (fun w' h' => exec_fieldAddr 36 _ 2 rfl _ (by kernel_rfl)) ?_
              go_frame
              refine y_yield 1 (some 44) (.slice (some ⟨b, off, none⟩) ss.length cs) rfl (by kernel_rfl) (by kernel_rfl) (by kernel_rfl) (fun _ _ _ h => h) rfl rfl ⟨hB, h0⟩ (fun w' h' => exec_load_one 33 _ rfl w.heap.size 2 rfl (.slice (some ⟨b, off, none⟩) ss.length cs) _ Try.underlying33 rfl (h'.2.at_ 2)) ?_
              go_frame
              refine y_yield 2 (some 45) (.int .i64 k) rfl (by kernel_rfl) (by kernel_rfl) (by kernel_rfl) (fun _ _ _ h => h) rfl rfl ⟨hB, h0⟩ (fun w' h' => exec_move _ rfl (.int .i64 k) rfl) ?_
              go_frame
              refine y_yield 3 (some 46) (.pointer (some ⟨b, off + k * 3, none⟩)) rfl (by kernel_rfl) (by kernel_rfl) (by kernel_rfl) (fun _ _ _ h => h) rfl rfl ⟨hB, h0⟩ (fun w' h' => exec_index_slice _ 57 _ _ rfl b off ss.length cs k 3 rfl rfl Try.underlying33 (by kernel_rfl) (by omega)) ?_
              go_frame
              refine y_yield 4 (some 47) (.agg #[.int .i64 l, .int .i64 r, .int .i64 f]) rfl (by kernel_rfl) (by kernel_rfl) (by kernel_rfl) (fun _ _ _ h => h) rfl rfl ⟨hB, h0⟩ (fun w' h' => exec_load_3 57 _ rfl b (off + k * 3) rfl l r f _ (RdK.cells_3 (hs.keep h'.1) hlt Hq.out) Try.underlying57 rfl (by kernel_rfl)) ?_
              go_frame
              refine y_yield 5 (some 48) (.pointer (some ⟨w.heap.size, 1, none⟩)) rfl (by kernel_rfl) (by kernel_rfl) (by kernel_rfl) (fun _ _ _ h => h) rfl rfl ⟨hB, h0⟩ (fun w' h' => exec_fieldAddr 36 _ 1 rfl _ (by kernel_rfl)) ?_
              go_frame
              refine y_yield 6 (some 49) (.int .i64 n) rfl (by kernel_rfl) (by kernel_rfl) (by kernel_rfl) (fun _ _ _ h => h) rfl rfl ⟨hB, h0⟩ (fun w' h' => exec_load_one 2 _ rfl w.heap.size 1 rfl (.int .i64 n) _ Try.underlying2 rfl (h'.2.at_ 1)) ?_
              go_frame
              refine y_yield 7 (some 50) (.int .i64 k) rfl (by kernel_rfl) (by kernel_rfl) (by kernel_rfl) (fun _ _ _ h => h) rfl rfl ⟨hB, h0⟩ (fun w' h' => exec_move _ rfl (.int .i64 k) rfl) ?_
              go_frame
              refine y_yield 8 (some 51) (.int .i64 (n + k)) rfl (by kernel_rfl) (by kernel_rfl) (by kernel_rfl) (fun _ _ _ h => h) rfl rfl ⟨hB, h0⟩ (fun w' h' => exec_add _ _ _ _ rfl n k (n + k) rfl rfl (IntWalk.i64_in _ (by omega))) ?_
              go_frame
              refine y_yield 9 (some 52) (.int .i64 ((n + k) - 1)) rfl (by kernel_rfl) (by kernel_rfl) (by kernel_rfl) (fun _ _ _ h => h) rfl rfl ⟨hB, h0⟩ (fun w' h' => exec_sub _ _ _ _ rfl ((n + k)) 1 ((n + k) - 1) rfl rfl (IntWalk.i64_in _ (by omega))) ?_
              go_frame
              refine y_oper 10 (by kernel_rfl) rfl rfl (fun K' hK' => ?_)
              have lz91 := hB.size
              have lz92 := h0.lt
              refine wp_new (some 4) rfl (al_impl_Step rfl) (fun Wz93 nnz94 => ?_)
              have bz95 := nnz94.below (Below.refl _ _) (Nat.le_refl _)
              replace hB := below_after hB bz95
              replace h0 := h0.after bz95
              have hz96 : At Wz93 wdz90.heap.size (.cells #[.int .i64 0, .int .i64 0, .int .i64 0] 57 (0, 0)) := nnz94.at_
              refine hK' _ _ ⟨hB, h0⟩ (fun _ => trivial) ?_
              clear hK' K' nnz94 bz95
              go_frame
              refine y_oper 11 (by kernel_rfl) rfl rfl (fun K' hK' => ?_)
              refine wp_store_all 57 _ _ rfl rfl wdz90.heap.size rfl #[.int .i64 l, .int .i64 r, .int .i64 f] rfl _ _ hz96 3 (by kernel_rfl) rfl rfl (by intro x hx; simp at hx; rcases hx with rfl | rfl | rfl <;> rfl) (fun Wz97 pz98 => ?_)
              replace hB := pz98.below hB (by omega)
              replace h0 := pz98.other h0 (by omega)
              replace hz96 : At Wz97 wdz90.heap.size (.cells #[.int .i64 l, .int .i64 r, .int .i64 f] 57 (0, 0)) := pz98.at_
              refine hK' _ _ ⟨hB, h0⟩ (fun _ => trivial) ?_
              clear hK' K' pz98
              refine y_oper 12 (by kernel_rfl) rfl rfl (fun K' hK' => ?_)
              refine wp_exec (some 5) rfl (.int .i64 ((n + k) - 1)) (exec_assign _ rfl (.int .i64 ((n + k) - 1)) rfl) ?_
              refine hK' _ _ ⟨hB, h0⟩ (fun _ => trivial) ?_
              clear hK' K'
              go_frame
              refine y_done (by kernel_rfl) ?_ _
              go_upto_region 7 with (fail)
              refine wp_region_lit ?_
              refine ls_ex (some 53) (.pointer (some ⟨wdz90.heap.size, 0, none⟩)) rfl rfl (exec_fieldAddr 57 _ 0 rfl _ (by kernel_rfl)) ?_
              go_frame
              refine ls_ex (some 54) (.int .i64 l) rfl rfl (exec_load_one 2 _ rfl wdz90.heap.size 0 rfl (.int .i64 l) _ Try.underlying2 rfl (hz96.at_ 0)) ?_
              go_frame
              refine ls_ex (some 55) (.int .i64 ((n + k) - 1)) rfl rfl (exec_move _ rfl (.int .i64 ((n + k) - 1)) rfl) ?_
              go_frame
              refine ls_op rfl (fun K' hK' => ?_)
              have lz101 := hB.size
              have lz102 := h0.lt
              have lz103 := hz96.lt
              refine wp_call3 (some 56) rfl 29 _ _ _ _ rfl (fun args w => by kernel_rfl) _ _ _ rfl rfl rfl _ (l01In_c l 0 (((n + k) - 1)) _) (fun e Wz99 h => ?_)
              obtain ⟨rfl, rfl⟩ := h
              rw [HL.out]
              refine ⟨_, rfl, ?_⟩
              refine hK' _ _ ?_
              clear hK' K'
              go_frame
              refine ls_ex (some 57) (.bool false) rfl rfl (exec_not _ _ rfl true rfl) ?_
              go_frame
              refine ls_ex (some 58) (.bool false) rfl rfl (exec_move _ rfl (.bool false) rfl) ?_
              go_frame
              refine ls_ex_g (some 59) (.pointer (some ⟨wdz90.heap.size, 1, none⟩)) rfl rfl (exec_fieldAddr 57 _ 1 rfl _ (by kernel_rfl)) ?_
              go_frame
              refine ls_ex_g (some 60) (.int .i64 r) rfl rfl (exec_load_one 2 _ rfl wdz90.heap.size 1 rfl (.int .i64 r) _ Try.underlying2 rfl (hz96.at_ 1)) ?_
              go_frame
              refine ls_ex_g (some 61) (.int .i64 ((n + k) - 1)) rfl rfl (exec_move _ rfl (.int .i64 ((n + k) - 1)) rfl) ?_
              go_frame
              refine ls_op_g rfl (fun K' hK' => ?_)
              have lz106 := hB.size
              have lz107 := h0.lt
              have lz108 := hz96.lt
              refine wp_call3 (some 62) rfl 29 _ _ _ _ rfl (fun args w => by kernel_rfl) _ _ _ rfl rfl rfl _ (l01In_c r 0 (((n + k) - 1)) _) (fun e Wz104 h => ?_)
              obtain ⟨rfl, rfl⟩ := h
              rw [HR.out]
              refine ⟨_, rfl, ?_⟩
              refine hK' _ _ ?_
              clear hK' K'
              go_frame
              refine ls_ex_g (some 63) (.bool false) rfl rfl (exec_not _ _ rfl true rfl) ?_
              go_frame
              refine ls_ex (some 64) (.bool false) rfl rfl (exec_pick _ _ _ rfl false rfl (.bool false) rfl) ?_
              go_frame
              refine ls_ex (some 65) (.bool false) rfl rfl (exec_move _ rfl (.bool false) rfl) ?_
              go_frame
              refine ls_ex_g (some 66) (.pointer (some ⟨wdz90.heap.size, 0, none⟩)) rfl rfl (exec_fieldAddr 57 _ 0 rfl _ (by kernel_rfl)) ?_
              go_frame
              refine ls_ex_g (some 67) (.int .i64 l) rfl rfl (exec_load_one 2 _ rfl wdz90.heap.size 0 rfl (.int .i64 l) _ Try.underlying2 rfl (hz96.at_ 0)) ?_
              go_frame
              refine ls_ex_g (some 68) (.pointer (some ⟨wdz90.heap.size, 1, none⟩)) rfl rfl (exec_fieldAddr 57 _ 1 rfl _ (by kernel_rfl)) ?_
              go_frame
              refine ls_ex_g (some 69) (.int .i64 r) rfl rfl (exec_load_one 2 _ rfl wdz90.heap.size 1 rfl (.int .i64 r) _ Try.underlying2 rfl (hz96.at_ 1)) ?_
              go_frame
              refine ls_ex_g (some 70) (.bool false) rfl rfl (exec_eql _ _ _ _ rfl l r rfl rfl false HE.out) ?_
              go_frame
              refine ls_ex (some 71) (.bool false) rfl rfl (exec_pick _ _ _ rfl false rfl (.bool false) rfl) ?_
              go_frame
              refine ls_ex (some 72) (.bool false) rfl rfl (exec_move _ rfl (.bool false) rfl) ?_
              go_frame
              refine ls_ex_g (some 73) (.pointer (some ⟨wdz90.heap.size, 2, none⟩)) rfl rfl (exec_fieldAddr 57 _ 2 rfl _ (by kernel_rfl)) ?_
              go_frame
              refine ls_ex_g (some 74) (.int .i64 f) rfl rfl (exec_load_one 2 _ rfl wdz90.heap.size 2 rfl (.int .i64 f) _ Try.underlying2 rfl (hz96.at_ 2)) ?_
              go_frame
              refine ls_ex_g (some 75) (.pointer (some ⟨w.heap.size, 0, none⟩)) rfl rfl (exec_fieldAddr 36 _ 0 rfl _ (by kernel_rfl)) ?_
              go_frame
              refine ls_ex_g (some 76) (.int .i64 p) rfl rfl (exec_load_one 2 _ rfl w.heap.size 0 rfl (.int .i64 p) _ Try.underlying2 rfl (h0.at_ 0)) ?_
              go_frame
              refine ls_ex_g (some 77) (.int .i64 (p - 1)) rfl rfl (exec_sub _ _ _ _ rfl p 1 (p - 1) rfl rfl (IntWalk.i64_in _ (by omega))) ?_
              go_frame
              refine ls_op_g rfl (fun K' hK' => ?_)
              have lz111 := hB.size
              have lz112 := h0.lt
              have lz113 := hz96.lt
              refine wp_call3 (some 78) rfl 29 _ _ _ _ rfl (fun args w => by kernel_rfl) _ _ _ rfl rfl rfl _ (l01In_c f 1 ((p - 1)) _) (fun e Wz109 h => ?_)
              obtain ⟨rfl, rfl⟩ := h
              rw [HF.out]
              refine ⟨_, rfl, ?_⟩
              refine hK' _ _ ?_
              clear hK' K'
              go_frame
              refine ls_ex_g (some 79) (.bool false) rfl rfl (exec_not _ _ rfl true rfl) ?_
              go_frame
              refine ls_ex (some 80) (.bool false) rfl rfl (exec_pick _ _ _ rfl false rfl (.bool false) rfl) ?_
              go_frame
              refine wpList_nil ?_
              go_upto_region 5 with (fail)
              refine wp_region_lit ?_
              refine ls_ex (some 41) (.int .i64 k) rfl rfl (exec_move _ rfl (.int .i64 k) rfl) ?_
              go_frame
              refine ls_ex (some 42) (.int .i64 (k + 1)) rfl rfl (exec_add _ _ _ _ rfl k 1 (k + 1) rfl rfl (IntWalk.i64_in _ (by omega))) ?_
              go_frame
              refine ls_ex (some 3) (.int .i64 (k + 1)) rfl rfl (exec_assign _ rfl (.int .i64 (k + 1)) rfl) ?_
              go_frame
              refine wpList_nil ?_
              go_wp2_with fail
              go_roundw
              case rel => exact ⟨k + 1, by omega, by go_num, HY, hB, h0⟩
              case measure => simp [intOf]; omega
    · have HS : Hid (stepsB p n ss ss.length = true) := Lib.hid (by rw [← show k = ss.length by omega]; exact HG.out)
      clear HG
      go_upto_region 4 with (fail)
      refine wp_region_lit ?_
      refine ls_ex (some 36) (.int .i64 k) rfl rfl (exec_move _ rfl (.int .i64 k) rfl) ?_
      go_frame
      refine ls_ex (some 37) (.pointer (some ⟨w.heap.size, 2, none⟩)) rfl rfl (exec_fieldAddr 36 _ 2 rfl _ (by kernel_rfl)) ?_
      go_frame
      refine ls_ex (some 38) (.slice As ss.length cs) rfl rfl (exec_load_one 33 _ rfl w.heap.size 2 rfl (.slice As ss.length cs) _ Try.underlying33 rfl (h0.at_ 2)) ?_
      go_frame
      refine ls_ex (some 39) (.int .i64 ss.length) rfl rfl (exec_len _ 33 57 rfl As ss.length cs rfl Try.underlying33) ?_
      go_frame
      refine ls_ex (some 40) (.bool false) rfl rfl (exec_lss _ _ _ _ rfl k ss.length rfl rfl false (decide_eq_false (by omega))) ?_
      go_frame
      refine wpList_nil ?_
      go_upto_region 9 with (fail)
      refine wp_region_lit ?_
      refine ls_ex (some 6) (.int .i64 0) rfl rfl (exec_assign _ rfl (.int .i64 0) rfl) ?_
      go_frame
      refine wpList_nil ?_
      go_wp2_with fail
      obtain ⟨we, rfl⟩ : ∃ x : World, x = wr := ⟨_, rfl⟩
      go_loopw [6] (fun s6 wr => ∃ j : Nat, j ≤ os.length ∧ s6 = .int .i64 j ∧ Hid (outsB p (n + ss.length) os j = true) ∧ Below w.heap.size w wr ∧ At wr w.heap.size (.cells #[.int .i64 p, .int .i64 n, .slice As ss.length cs, .slice Ao os.length co] 36 (0, 0))) (fun s6 _ => os.length - (intOf s6).toNat)
      case atStart => exact ⟨0, by omega, rfl, Lib.hid rfl, hB, h0⟩
      case round =>
        clear hB h0
        obtain ⟨j, hj, rfl, HO, hB, h0⟩ := hrel
        by_cases hlt : j < os.length
        · obtain ⟨b, off, rfl, hc⟩ := (ho.keep hB).at_ hlt
          clear hc
          obtain ⟨v, f, hq⟩ := row2 (ho.good _ (List.getElem_mem hlt))
          have Hq := Lib.hid hq
          cases hv : (decide (0 ≤ v) && decide (v ≤ n + ss.length - 1)) with
          | false =>
            have HNo : Hid (progB p n ss os = false) := Lib.hid (progB_noO hlt (by rw [hq, outB_sp, hv]; simp))
            clear hq
            have HV := Lib.hid hv
            clear hv
            go_upto_region 10 with (fail)
            refine wp_region_lit ?_
            refine ls_ex (some 81) (.int .i64 j) rfl rfl (exec_move _ rfl (.int .i64 j) rfl) ?_
            go_frame
            refine ls_ex (some 82) (.pointer (some ⟨w.heap.size, 3, none⟩)) rfl rfl (exec_fieldAddr 36 _ 3 rfl _ (by kernel_rfl)) ?_
            go_frame
            refine ls_ex (some 83) (.slice (some ⟨b, off, none⟩) os.length co) rfl rfl (exec_load_one 34 _ rfl w.heap.size 3 rfl (.slice (some ⟨b, off, none⟩) os.length co) _ Try.underlying34 rfl (h0.at_ 3)) ?_
            go_frame
            refine ls_ex (some 84) (.int .i64 os.length) rfl rfl (exec_len _ 34 61 rfl ((some ⟨b, off, none⟩)) os.length co rfl Try.underlying34) ?_
            go_frame
            refine ls_ex (some 85) (.bool true) rfl rfl (exec_lss _ _ _ _ rfl j os.length rfl rfl true (decide_eq_true (by omega))) ?_
            go_frame
            refine wpList_nil ?_
            go_upto_region 12 with (fail)
            refine wp_region_lit ?_
            refine ls_ex (some 88) (.pointer (some ⟨w.heap.size, 3, none⟩)) rfl rfl (exec_fieldAddr 36 _ 3 rfl _ (by kernel_rfl)) ?_
            go_frame
            refine ls_ex (some 89) (.slice (some ⟨b, off, none⟩) os.length co) rfl rfl (exec_load_one 34 _ rfl w.heap.size 3 rfl (.slice (some ⟨b, off, none⟩) os.length co) _ Try.underlying34 rfl (h0.at_ 3)) ?_
            go_frame
            refine ls_ex (some 90) (.int .i64 j) rfl rfl (exec_move _ rfl (.int .i64 j) rfl) ?_
            go_frame
            refine ls_ex (some 91) (.pointer (some ⟨b, off + j * 2, none⟩)) rfl rfl (exec_index_slice _ 61 _ _ rfl b off os.length co j 2 rfl rfl Try.underlying34 (by kernel_rfl) (by omega)) ?_
            go_frame
            refine ls_ex (some 92) (.agg #[.int .i64 v, .int .i64 f]) rfl rfl (exec_load_2 61 _ rfl b (off + j * 2) rfl v f _ (RdK.cells_2 (ho.keep hB) hlt Hq.out) Try.underlying61 rfl (by kernel_rfl)) ?_
            go_frame
            refine ls_op rfl (fun K' hK' => ?_)
            have lz114 := hB.size
            have lz115 := h0.lt
            refine wp_new (some 7) rfl (al_impl_Output rfl) (fun Wz116 nnz117 => ?_)
            have bz118 := nnz117.below (Below.refl _ _) (Nat.le_refl _)
            replace hB := below_after hB bz118
            replace h0 := h0.after bz118
            have hz119 : At Wz116 wr.heap.size (.cells #[.int .i64 0, .int .i64 0] 61 (0, 0)) := nnz117.at_
            refine hK' _ _ ?_
            clear hK' K' nnz117 bz118
            go_frame
            refine ls_op rfl (fun K' hK' => ?_)
            refine wp_store_all 61 _ _ rfl rfl wr.heap.size rfl #[.int .i64 v, .int .i64 f] rfl _ _ hz119 2 (by kernel_rfl) rfl rfl (by intro x hx; simp at hx; rcases hx with rfl | rfl <;> rfl) (fun Wz120 pz121 => ?_)
            replace hB := pz121.below hB (by omega)
            replace h0 := pz121.other h0 (by omega)
            replace hz119 : At Wz120 wr.heap.size (.cells #[.int .i64 v, .int .i64 f] 61 (0, 0)) := pz121.at_
            refine hK' _ _ ?_
            clear hK' K' pz121
            refine wpList_nil ?_
            go_upto_region 13 with (fail)
            refine wp_region_lit ?_
            refine ls_ex (some 93) (.pointer (some ⟨wr.heap.size, 0, none⟩)) rfl rfl (exec_fieldAddr 61 _ 0 rfl _ (by kernel_rfl)) ?_
            go_frame
            refine ls_ex (some 94) (.int .i64 v) rfl rfl (exec_load_one 2 _ rfl wr.heap.size 0 rfl (.int .i64 v) _ Try.underlying2 rfl (hz119.at_ 0)) ?_
            go_frame
            refine ls_ex (some 95) (.pointer (some ⟨w.heap.size, 1, none⟩)) rfl rfl (exec_fieldAddr 36 _ 1 rfl _ (by kernel_rfl)) ?_
            go_frame
            refine ls_ex (some 96) (.int .i64 n) rfl rfl (exec_load_one 2 _ rfl w.heap.size 1 rfl (.int .i64 n) _ Try.underlying2 rfl (h0.at_ 1)) ?_
            go_frame
            refine ls_ex (some 97) (.pointer (some ⟨w.heap.size, 2, none⟩)) rfl rfl (exec_fieldAddr 36 _ 2 rfl _ (by kernel_rfl)) ?_
            go_frame
            refine ls_ex (some 98) (.slice As ss.length cs) rfl rfl (exec_load_one 33 _ rfl w.heap.size 2 rfl (.slice As ss.length cs) _ Try.underlying33 rfl (h0.at_ 2)) ?_
            go_frame
            refine ls_ex (some 99) (.int .i64 ss.length) rfl rfl (exec_len _ 33 57 rfl As ss.length cs rfl Try.underlying33) ?_
            go_frame
            refine ls_ex (some 100) (.int .i64 (n + ss.length)) rfl rfl (exec_add _ _ _ _ rfl n ss.length (n + ss.length) rfl rfl (IntWalk.i64_in _ (by omega))) ?_
            go_frame
            refine ls_ex (some 101) (.int .i64 ((n + ss.length) - 1)) rfl rfl (exec_sub _ _ _ _ rfl ((n + ss.length)) 1 ((n + ss.length) - 1) rfl rfl (IntWalk.i64_in _ (by omega))) ?_
            go_frame
            refine ls_op rfl (fun K' hK' => ?_)
            have lz124 := hB.size
            have lz125 := h0.lt
            have lz126 := hz119.lt
            refine wp_call3 (some 102) rfl 29 _ _ _ _ rfl (fun args w => by kernel_rfl) _ _ _ rfl rfl rfl _ (l01In_c v 0 (((n + ss.length) - 1)) _) (fun e Wz122 h => ?_)
            obtain ⟨rfl, rfl⟩ := h
            rw [HV.out]
            refine ⟨_, rfl, ?_⟩
            refine hK' _ _ ?_
            clear hK' K'
            go_frame
            refine ls_ex (some 103) (.bool true) rfl rfl (exec_not _ _ rfl false rfl) ?_
            go_frame
            refine ls_ex (some 104) (.bool true) rfl rfl (exec_move _ rfl (.bool true) rfl) ?_
            go_frame
            refine ls_skip_g (some 105) rfl rfl ?_
            go_frame
            refine ls_skip_g (some 106) rfl rfl ?_
            go_frame
            refine ls_skip_g (some 107) rfl rfl ?_
            go_frame
            refine ls_skip_g (some 108) rfl rfl ?_
            go_frame
            refine ls_skip_g (some 109) rfl rfl ?_
            go_frame
            refine ls_skip_g (some 110) rfl rfl ?_
            go_frame
            refine ls_skip_g (some 111) rfl rfl ?_
            go_frame
            refine ls_ex (some 112) (.bool true) rfl rfl (exec_pick _ _ _ rfl true rfl (.bool true) rfl) ?_
            go_frame
            refine ls_ex (some 113) (.bool true) rfl rfl (exec_move _ rfl (.bool true) rfl) ?_
            go_frame
            refine ls_skip_g (some 114) rfl rfl ?_
            go_frame
            refine ls_skip_g (some 115) rfl rfl ?_
            go_frame
            refine ls_skip_g (some 116) rfl rfl ?_
            go_frame
            refine ls_skip_g (some 117) rfl rfl ?_
            go_frame
            refine ls_skip_g (some 118) rfl rfl ?_
            go_frame
            refine ls_skip_g (some 119) rfl rfl ?_
            go_frame
            refine ls_skip_g (some 120) rfl rfl ?_
            go_frame
            refine ls_skip_g (some 121) rfl rfl ?_
            go_frame
            refine ls_ex (some 122) (.bool true) rfl rfl (exec_pick _ _ _ rfl true rfl (.bool true) rfl) ?_
            go_frame
            refine wpList_nil ?_
            go_upto_region 14 with (fail)
            refine wp_region_lit ?_
            refine ls_ex (some 2) (.bool false) rfl rfl (exec_assign _ rfl (.bool false) rfl) ?_
            go_frame
            refine wpList_nil ?_
            go_wp2_with fail
            go_ret
            exact ⟨by rw [HNo.out]; rfl, hB⟩
          | true =>
            cases hf : (decide (0 ≤ f) && decide (f ≤ p - 1)) with
            | false =>
              have HNo : Hid (progB p n ss os = false) := Lib.hid (progB_noO hlt (by rw [hq, outB_sp, hv, hf]; simp))
              clear hq
              have HV := Lib.hid hv
              have HF := Lib.hid hf
              clear hv hf
              go_upto_region 10 with (fail)
              refine wp_region_lit ?_
              refine ls_ex (some 81) (.int .i64 j) rfl rfl (exec_move _ rfl (.int .i64 j) rfl) ?_
              go_frame
              refine ls_ex (some 82) (.pointer (some ⟨w.heap.size, 3, none⟩)) rfl rfl (exec_fieldAddr 36 _ 3 rfl _ (by kernel_rfl)) ?_
              go_frame
              refine ls_ex (some 83) (.slice (some ⟨b, off, none⟩) os.length co) rfl rfl (exec_load_one 34 _ rfl w.heap.size 3 rfl (.slice (some ⟨b, off, none⟩) os.length co) _ Try.underlying34 rfl (h0.at_ 3)) ?_
              go_frame
              refine ls_ex (some 84) (.int .i64 os.length) rfl rfl (exec_len _ 34 61 rfl ((some ⟨b, off, none⟩)) os.length co rfl Try.underlying34) ?_
              go_frame
              refine ls_ex (some 85) (.bool true) rfl rfl (exec_lss _ _ _ _ rfl j os.length rfl rfl true (decide_eq_true (by omega))) ?_
              go_frame
              refine wpList_nil ?_
              go_upto_region 12 with (fail)
              refine wp_region_lit ?_
              refine ls_ex (some 88) (.pointer (some ⟨w.heap.size, 3, none⟩)) rfl rfl (exec_fieldAddr 36 _ 3 rfl _ (by kernel_rfl)) ?_
              go_frame
              refine ls_ex (some 89) (.slice (some ⟨b, off, none⟩) os.length co) rfl rfl (exec_load_one 34 _ rfl w.heap.size 3 rfl (.slice (some ⟨b, off, none⟩) os.length co) _ Try.underlying34 rfl (h0.at_ 3)) ?_
              go_frame
              refine ls_ex (some 90) (.int .i64 j) rfl rfl (exec_move _ rfl (.int .i64 j) rfl) ?_
              go_frame
              refine ls_ex (some 91) (.pointer (some ⟨b, off + j * 2, none⟩)) rfl rfl (exec_index_slice _ 61 _ _ rfl b off os.length co j 2 rfl rfl Try.underlying34 (by kernel_rfl) (by omega)) ?_
              go_frame
              refine ls_ex (some 92) (.agg #[.int .i64 v, .int .i64 f]) rfl rfl (exec_load_2 61 _ rfl b (off + j * 2) rfl v f _ (RdK.cells_2 (ho.keep hB) hlt Hq.out) Try.underlying61 rfl (by kernel_rfl)) ?_
              go_frame
              refine ls_op rfl (fun K' hK' => ?_)
              have lz127 := hB.size
              have lz128 := h0.lt
              refine wp_new (some 7) rfl (al_impl_Output rfl) (fun Wz129 nnz130 => ?_)
              have bz131 := nnz130.below (Below.refl _ _) (Nat.le_refl _)
              replace hB := below_after hB bz131
              replace h0 := h0.after bz131
              have hz132 : At Wz129 wr.heap.size (.cells #[.int .i64 0, .int .i64 0] 61 (0, 0)) := nnz130.at_
              refine hK' _ _ ?_
              clear hK' K' nnz130 bz131
              go_frame
              refine ls_op rfl (fun K' hK' => ?_)
              refine wp_store_all 61 _ _ rfl rfl wr.heap.size rfl #[.int .i64 v, .int .i64 f] rfl _ _ hz132 2 (by kernel_rfl) rfl rfl (by intro x hx; simp at hx; rcases hx with rfl | rfl <;> rfl) (fun Wz133 pz134 => ?_)
              replace hB := pz134.below hB (by omega)
              replace h0 := pz134.other h0 (by omega)
              replace hz132 : At Wz133 wr.heap.size (.cells #[.int .i64 v, .int .i64 f] 61 (0, 0)) := pz134.at_
              refine hK' _ _ ?_
              clear hK' K' pz134
              refine wpList_nil ?_
              go_upto_region 13 with (fail)
              refine wp_region_lit ?_
              refine ls_ex (some 93) (.pointer (some ⟨wr.heap.size, 0, none⟩)) rfl rfl (exec_fieldAddr 61 _ 0 rfl _ (by kernel_rfl)) ?_
              go_frame
              refine ls_ex (some 94) (.int .i64 v) rfl rfl (exec_load_one 2 _ rfl wr.heap.size 0 rfl (.int .i64 v) _ Try.underlying2 rfl (hz132.at_ 0)) ?_
              go_frame
              refine ls_ex (some 95) (.pointer (some ⟨w.heap.size, 1, none⟩)) rfl rfl (exec_fieldAddr 36 _ 1 rfl _ (by kernel_rfl)) ?_
              go_frame
              refine ls_ex (some 96) (.int .i64 n) rfl rfl (exec_load_one 2 _ rfl w.heap.size 1 rfl (.int .i64 n) _ Try.underlying2 rfl (h0.at_ 1)) ?_
              go_frame
              refine ls_ex (some 97) (.pointer (some ⟨w.heap.size, 2, none⟩)) rfl rfl (exec_fieldAddr 36 _ 2 rfl _ (by kernel_rfl)) ?_
              go_frame
              refine ls_ex (some 98) (.slice As ss.length cs) rfl rfl (exec_load_one 33 _ rfl w.heap.size 2 rfl (.slice As ss.length cs) _ Try.underlying33 rfl (h0.at_ 2)) ?_
              go_frame
              refine ls_ex (some 99) (.int .i64 ss.length) rfl rfl (exec_len _ 33 57 rfl As ss.length cs rfl Try.underlying33) ?_
              go_frame
              refine ls_ex (some 100) (.int .i64 (n + ss.length)) rfl rfl (exec_add _ _ _ _ rfl n ss.length (n + ss.length) rfl rfl (IntWalk.i64_in _ (by omega))) ?_
              go_frame
              refine ls_ex (some 101) (.int .i64 ((n + ss.length) - 1)) rfl rfl (exec_sub _ _ _ _ rfl ((n + ss.length)) 1 ((n + ss.length) - 1) rfl rfl (IntWalk.i64_in _ (by omega))) ?_
              go_frame
              refine ls_op rfl (fun K' hK' => ?_)
              have lz137 := hB.size
              have lz138 := h0.lt
              have lz139 := hz132.lt
              refine wp_call3 (some 102) rfl 29 _ _ _ _ rfl (fun args w => by kernel_rfl) _ _ _ rfl rfl rfl _ (l01In_c v 0 (((n + ss.length) - 1)) _) (fun e Wz135 h => ?_)
              obtain ⟨rfl, rfl⟩ := h
              rw [HV.out]
              refine ⟨_, rfl, ?_⟩
              refine hK' _ _ ?_
              clear hK' K'
              go_frame
              refine ls_ex (some 103) (.bool false) rfl rfl (exec_not _ _ rfl true rfl) ?_
              go_frame
              refine ls_ex (some 104) (.bool false) rfl rfl (exec_move _ rfl (.bool false) rfl) ?_
              go_frame
              refine ls_ex_g (some 105) (.pointer (some ⟨wr.heap.size, 1, none⟩)) rfl rfl (exec_fieldAddr 61 _ 1 rfl _ (by kernel_rfl)) ?_
              go_frame
              refine ls_ex_g (some 106) (.int .i64 f) rfl rfl (exec_load_one 2 _ rfl wr.heap.size 1 rfl (.int .i64 f) _ Try.underlying2 rfl (hz132.at_ 1)) ?_
              go_frame
              refine ls_ex_g (some 107) (.pointer (some ⟨w.heap.size, 0, none⟩)) rfl rfl (exec_fieldAddr 36 _ 0 rfl _ (by kernel_rfl)) ?_
              go_frame
              refine ls_ex_g (some 108) (.int .i64 p) rfl rfl (exec_load_one 2 _ rfl w.heap.size 0 rfl (.int .i64 p) _ Try.underlying2 rfl (h0.at_ 0)) ?_
              go_frame
              refine ls_ex_g (some 109) (.int .i64 (p - 1)) rfl rfl (exec_sub _ _ _ _ rfl p 1 (p - 1) rfl rfl (IntWalk.i64_in _ (by omega))) ?_
              go_frame
              refine ls_op_g rfl (fun K' hK' => ?_)
              have lz142 := hB.size
              have lz143 := h0.lt
              have lz144 := hz132.lt
              refine wp_call3 (some 110) rfl 29 _ _ _ _ rfl (fun args w => by kernel_rfl) _ _ _ rfl rfl rfl _ (l01In_c f 0 ((p - 1)) _) (fun e Wz140 h => ?_)
              obtain ⟨rfl, rfl⟩ := h
              rw [HF.out]
              refine ⟨_, rfl, ?_⟩
              refine hK' _ _ ?_
              clear hK' K'
              go_frame
              refine ls_ex_g (some 111) (.bool true) rfl rfl (exec_not _ _ rfl false rfl) ?_
              go_frame
              refine ls_ex (some 112) (.bool true) rfl rfl (exec_pick _ _ _ rfl false rfl (.bool true) rfl) ?_
              go_frame
              refine ls_ex (some 113) (.bool true) rfl rfl (exec_move _ rfl (.bool true) rfl) ?_
              go_frame
              refine ls_skip_g (some 114) rfl rfl ?_
              go_frame
              refine ls_skip_g (some 115) rfl rfl ?_
              go_frame
              refine ls_skip_g (some 116) rfl rfl ?_
              go_frame
              refine ls_skip_g (some 117) rfl rfl ?_
              go_frame
              refine ls_skip_g (some 118) rfl rfl ?_
              go_frame
              refine ls_skip_g (some 119) rfl rfl ?_
              go_frame
              refine ls_skip_g (some 120) rfl rfl ?_
              go_frame
              refine ls_skip_g (some 121) rfl rfl ?_
              go_frame
              refine ls_ex (some 122) (.bool true) rfl rfl (exec_pick _ _ _ rfl true rfl (.bool true) rfl) ?_
              go_frame
              refine wpList_nil ?_
              go_upto_region 14 with (fail)
              refine wp_region_lit ?_
              refine ls_ex (some 2) (.bool false) rfl rfl (exec_assign _ rfl (.bool false) rfl) ?_
              go_frame
              refine wpList_nil ?_
              go_wp2_with fail
              go_ret
              exact ⟨by rw [HNo.out]; rfl, hB⟩
            | true =>
              cases hz : (f == 0) with
              | false =>
                have HY : Hid (outsB p (n + ss.length) os (j + 1) = true) := Lib.hid (outsB_step hlt HO.out (by rw [hq, outB_sp, hv, hf, hz, Bool.false_and]; rfl))
                clear hq
                have HV := Lib.hid hv
                have HF := Lib.hid hf
                have HZ := Lib.hid hz
                clear hv hf hz
                go_upto_region 10 with (fail)
                refine wp_region_lit ?_
                refine ls_ex (some 81) (.int .i64 j) rfl rfl (exec_move _ rfl (.int .i64 j) rfl) ?_
                go_frame
                refine ls_ex (some 82) (.pointer (some ⟨w.heap.size, 3, none⟩)) rfl rfl (exec_fieldAddr 36 _ 3 rfl _ (by kernel_rfl)) ?_
                go_frame
                refine ls_ex (some 83) (.slice (some ⟨b, off, none⟩) os.length co) rfl rfl (exec_load_one 34 _ rfl w.heap.size 3 rfl (.slice (some ⟨b, off, none⟩) os.length co) _ Try.underlying34 rfl (h0.at_ 3)) ?_
                go_frame
                refine ls_ex (some 84) (.int .i64 os.length) rfl rfl (exec_len _ 34 61 rfl ((some ⟨b, off, none⟩)) os.length co rfl Try.underlying34) ?_
                go_frame
                refine ls_ex (some 85) (.bool true) rfl rfl (exec_lss _ _ _ _ rfl j os.length rfl rfl true (decide_eq_true (by omega))) ?_
                go_frame
                refine wpList_nil ?_
                go_upto_region 12 with (fail)
                refine wp_region_lit ?_
                refine ls_ex (some 88) (.pointer (some ⟨w.heap.size, 3, none⟩)) rfl rfl (exec_fieldAddr 36 _ 3 rfl _ (by kernel_rfl)) ?_
                go_frame
                refine ls_ex (some 89) (.slice (some ⟨b, off, none⟩) os.length co) rfl rfl (exec_load_one 34 _ rfl w.heap.size 3 rfl (.slice (some ⟨b, off, none⟩) os.length co) _ Try.underlying34 rfl (h0.at_ 3)) ?_
                go_frame
                refine ls_ex (some 90) (.int .i64 j) rfl rfl (exec_move _ rfl (.int .i64 j) rfl) ?_
                go_frame
                refine ls_ex (some 91) (.pointer (some ⟨b, off + j * 2, none⟩)) rfl rfl (exec_index_slice _ 61 _ _ rfl b off os.length co j 2 rfl rfl Try.underlying34 (by kernel_rfl) (by omega)) ?_
                go_frame
                refine ls_ex (some 92) (.agg #[.int .i64 v, .int .i64 f]) rfl rfl (exec_load_2 61 _ rfl b (off + j * 2) rfl v f _ (RdK.cells_2 (ho.keep hB) hlt Hq.out) Try.underlying61 rfl (by kernel_rfl)) ?_
                go_frame
                refine ls_op rfl (fun K' hK' => ?_)
                have lz145 := hB.size
                have lz146 := h0.lt
                refine wp_new (some 7) rfl (al_impl_Output rfl) (fun Wz147 nnz148 => ?_)
                have bz149 := nnz148.below (Below.refl _ _) (Nat.le_refl _)
                replace hB := below_after hB bz149
                replace h0 := h0.after bz149
                have hz150 : At Wz147 wr.heap.size (.cells #[.int .i64 0, .int .i64 0] 61 (0, 0)) := nnz148.at_
                refine hK' _ _ ?_
                clear hK' K' nnz148 bz149
                go_frame
                refine ls_op rfl (fun K' hK' => ?_)
                refine wp_store_all 61 _ _ rfl rfl wr.heap.size rfl #[.int .i64 v, .int .i64 f] rfl _ _ hz150 2 (by kernel_rfl) rfl rfl (by intro x hx; simp at hx; rcases hx with rfl | rfl <;> rfl) (fun Wz151 pz152 => ?_)
                replace hB := pz152.below hB (by omega)
                replace h0 := pz152.other h0 (by omega)
                replace hz150 : At Wz151 wr.heap.size (.cells #[.int .i64 v, .int .i64 f] 61 (0, 0)) := pz152.at_
                refine hK' _ _ ?_
                clear hK' K' pz152
                refine wpList_nil ?_
                go_upto_region 13 with (fail)
                refine wp_region_lit ?_
                refine ls_ex (some 93) (.pointer (some ⟨wr.heap.size, 0, none⟩)) rfl rfl (exec_fieldAddr 61 _ 0 rfl _ (by kernel_rfl)) ?_
                go_frame
                refine ls_ex (some 94) (.int .i64 v) rfl rfl (exec_load_one 2 _ rfl wr.heap.size 0 rfl (.int .i64 v) _ Try.underlying2 rfl (hz150.at_ 0)) ?_
                go_frame
                refine ls_ex (some 95) (.pointer (some ⟨w.heap.size, 1, none⟩)) rfl rfl (exec_fieldAddr 36 _ 1 rfl _ (by kernel_rfl)) ?_
                go_frame
                refine ls_ex (some 96) (.int .i64 n) rfl rfl (exec_load_one 2 _ rfl w.heap.size 1 rfl (.int .i64 n) _ Try.underlying2 rfl (h0.at_ 1)) ?_
                go_frame
                refine ls_ex (some 97) (.pointer (some ⟨w.heap.size, 2, none⟩)) rfl rfl (exec_fieldAddr 36 _ 2 rfl _ (by kernel_rfl)) ?_
                go_frame
                refine ls_ex (some 98) (.slice As ss.length cs) rfl rfl (exec_load_one 33 _ rfl w.heap.size 2 rfl (.slice As ss.length cs) _ Try.underlying33 rfl (h0.at_ 2)) ?_
                go_frame
                refine ls_ex (some 99) (.int .i64 ss.length) rfl rfl (exec_len _ 33 57 rfl As ss.length cs rfl Try.underlying33) ?_
                go_frame
                refine ls_ex (some 100) (.int .i64 (n + ss.length)) rfl rfl (exec_add _ _ _ _ rfl n ss.length (n + ss.length) rfl rfl (IntWalk.i64_in _ (by omega))) ?_
                go_frame
                refine ls_ex (some 101) (.int .i64 ((n + ss.length) - 1)) rfl rfl (exec_sub _ _ _ _ rfl ((n + ss.length)) 1 ((n + ss.length) - 1) rfl rfl (IntWalk.i64_in _ (by omega))) ?_
                go_frame
                refine ls_op rfl (fun K' hK' => ?_)
                have lz155 := hB.size
                have lz156 := h0.lt
                have lz157 := hz150.lt
                refine wp_call3 (some 102) rfl 29 _ _ _ _ rfl (fun args w => by kernel_rfl) _ _ _ rfl rfl rfl _ (l01In_c v 0 (((n + ss.length) - 1)) _) (fun e Wz153 h => ?_)
                obtain ⟨rfl, rfl⟩ := h
                rw [HV.out]
                refine ⟨_, rfl, ?_⟩
                refine hK' _ _ ?_
                clear hK' K'
                go_frame
                refine ls_ex (some 103) (.bool false) rfl rfl (exec_not _ _ rfl true rfl) ?_
                go_frame
                refine ls_ex (some 104) (.bool false) rfl rfl (exec_move _ rfl (.bool false) rfl) ?_
                go_frame
                refine ls_ex_g (some 105) (.pointer (some ⟨wr.heap.size, 1, none⟩)) rfl rfl (exec_fieldAddr 61 _ 1 rfl _ (by kernel_rfl)) ?_
                go_frame
                refine ls_ex_g (some 106) (.int .i64 f) rfl rfl (exec_load_one 2 _ rfl wr.heap.size 1 rfl (.int .i64 f) _ Try.underlying2 rfl (hz150.at_ 1)) ?_
                go_frame
                refine ls_ex_g (some 107) (.pointer (some ⟨w.heap.size, 0, none⟩)) rfl rfl (exec_fieldAddr 36 _ 0 rfl _ (by kernel_rfl)) ?_
                go_frame
                refine ls_ex_g (some 108) (.int .i64 p) rfl rfl (exec_load_one 2 _ rfl w.heap.size 0 rfl (.int .i64 p) _ Try.underlying2 rfl (h0.at_ 0)) ?_
                go_frame
                refine ls_ex_g (some 109) (.int .i64 (p - 1)) rfl rfl (exec_sub _ _ _ _ rfl p 1 (p - 1) rfl rfl (IntWalk.i64_in _ (by omega))) ?_
                go_frame
                refine ls_op_g rfl (fun K' hK' => ?_)
                have lz160 := hB.size
                have lz161 := h0.lt
                have lz162 := hz150.lt
                refine wp_call3 (some 110) rfl 29 _ _ _ _ rfl (fun args w => by kernel_rfl) _ _ _ rfl rfl rfl _ (l01In_c f 0 ((p - 1)) _) (fun e Wz158 h => ?_)
                obtain ⟨rfl, rfl⟩ := h
                rw [HF.out]
                refine ⟨_, rfl, ?_⟩
                refine hK' _ _ ?_
                clear hK' K'
                go_frame
                refine ls_ex_g (some 111) (.bool false) rfl rfl (exec_not _ _ rfl true rfl) ?_
                go_frame
                refine ls_ex (some 112) (.bool false) rfl rfl (exec_pick _ _ _ rfl false rfl (.bool false) rfl) ?_
                go_frame
                refine ls_ex (some 113) (.bool false) rfl rfl (exec_move _ rfl (.bool false) rfl) ?_
                go_frame
                refine ls_ex_g (some 114) (.pointer (some ⟨wr.heap.size, 1, none⟩)) rfl rfl (exec_fieldAddr 61 _ 1 rfl _ (by kernel_rfl)) ?_
                go_frame
                refine ls_ex_g (some 115) (.int .i64 f) rfl rfl (exec_load_one 2 _ rfl wr.heap.size 1 rfl (.int .i64 f) _ Try.underlying2 rfl (hz150.at_ 1)) ?_
                go_frame
                refine ls_ex_g (some 116) (.bool false) rfl rfl (exec_eql _ _ _ _ rfl f 0 rfl rfl false HZ.out) ?_
                go_frame
                refine ls_ex_g (some 117) (.bool false) rfl rfl (exec_move _ rfl (.bool false) rfl) ?_
                go_frame
                refine ls_skip_g (some 118) rfl rfl ?_
                go_frame
                refine ls_skip_g (some 119) rfl rfl ?_
                go_frame
                refine ls_skip_g (some 120) rfl rfl ?_
                go_frame
                refine ls_ex_g (some 121) (.bool false) rfl rfl (exec_pick _ _ _ rfl false rfl (.bool false) rfl) ?_
                go_frame
                refine ls_ex (some 122) (.bool false) rfl rfl (exec_pick _ _ _ rfl false rfl (.bool false) rfl) ?_
                go_frame
                refine wpList_nil ?_
                go_upto_region 11 with (fail)
                refine wp_region_lit ?_
                refine ls_ex (some 86) (.int .i64 j) rfl rfl (exec_move _ rfl (.int .i64 j) rfl) ?_
                go_frame
                refine ls_ex (some 87) (.int .i64 (j + 1)) rfl rfl (exec_add _ _ _ _ rfl j 1 (j + 1) rfl rfl (IntWalk.i64_in _ (by omega))) ?_
                go_frame
                refine ls_ex (some 6) (.int .i64 (j + 1)) rfl rfl (exec_assign _ rfl (.int .i64 (j + 1)) rfl) ?_
                go_frame
                refine wpList_nil ?_
                go_wp2_with fail
                go_roundw
                case rel => exact ⟨j + 1, by omega, by go_num, HY, hB, h0⟩
                case measure => simp [intOf]; omega
              | true =>
                cases hw : (v != 0) with
                | false =>
                  have HY : Hid (outsB p (n + ss.length) os (j + 1) = true) := Lib.hid (outsB_step hlt HO.out (by rw [hq, outB_sp, hv, hf, hz, hw, Bool.true_and]; rfl))
                  clear hq
                  have HV := Lib.hid hv
                  have HF := Lib.hid hf
                  have HZ := Lib.hid hz
                  have HW := Lib.hid hw
                  clear hv hf hz hw
                  go_upto_region 10 with (fail)
                  refine wp_region_lit ?_
                  refine ls_ex (some 81) (.int .i64 j) rfl rfl (exec_move _ rfl (.int .i64 j) rfl) ?_
                  go_frame
                  refine ls_ex (some 82) (.pointer (some ⟨w.heap.size, 3, none⟩)) rfl rfl (exec_fieldAddr 36 _ 3 rfl _ (by kernel_rfl)) ?_
                  go_frame
                  refine ls_ex (some 83) (.slice (some ⟨b, off, none⟩) os.length co) rfl rfl (exec_load_one 34 _ rfl w.heap.size 3 rfl (.slice (some ⟨b, off, none⟩) os.length co) _ Try.underlying34 rfl (h0.at_ 3)) ?_
                  go_frame
                  refine ls_ex (some 84) (.int .i64 os.length) rfl rfl (exec_len _ 34 61 rfl ((some ⟨b, off, none⟩)) os.length co rfl Try.underlying34) ?_
                  go_frame
                  refine ls_ex (some 85) (.bool true) rfl rfl (exec_lss _ _ _ _ rfl j os.length rfl rfl true (decide_eq_true (by omega))) ?_
                  go_frame
                  refine wpList_nil ?_
                  go_upto_region 12 with (fail)
                  refine wp_region_lit ?_
                  refine ls_ex (some 88) (.pointer (some ⟨w.heap.size, 3, none⟩)) rfl rfl (exec_fieldAddr 36 _ 3 rfl _ (by kernel_rfl)) ?_
                  go_frame
                  refine ls_ex (some 89) (.slice (some ⟨b, off, none⟩) os.length co) rfl rfl (exec_load_one 34 _ rfl w.heap.size 3 rfl (.slice (some ⟨b, off, none⟩) os.length co) _ Try.underlying34 rfl (h0.at_ 3)) ?_
                  go_frame
                  refine ls_ex (some 90) (.int .i64 j) rfl rfl (exec_move _ rfl (.int .i64 j) rfl) ?_
                  go_frame
                  refine ls_ex (some 91) (.pointer (some ⟨b, off + j * 2, none⟩)) rfl rfl (exec_index_slice _ 61 _ _ rfl b off os.length co j 2 rfl rfl Try.underlying34 (by kernel_rfl) (by omega)) ?_
                  go_frame
                  refine ls_ex (some 92) (.agg #[.int .i64 v, .int .i64 f]) rfl rfl (exec_load_2 61 _ rfl b (off + j * 2) rfl v f _ (RdK.cells_2 (ho.keep hB) hlt Hq.out) Try.underlying61 rfl (by kernel_rfl)) ?_
                  go_frame
                  refine ls_op rfl (fun K' hK' => ?_)
                  have lz163 := hB.size
                  have lz164 := h0.lt
                  refine wp_new (some 7) rfl (al_impl_Output rfl) (fun Wz165 nnz166 => ?_)
                  have bz167 := nnz166.below (Below.refl _ _) (Nat.le_refl _)
                  replace hB := below_after hB bz167
                  replace h0 := h0.after bz167
                  have hz168 : At Wz165 wr.heap.size (.cells #[.int .i64 0, .int .i64 0] 61 (0, 0)) := nnz166.at_
                  refine hK' _ _ ?_
                  clear hK' K' nnz166 bz167
                  go_frame
                  refine ls_op rfl (fun K' hK' => ?_)
                  refine wp_store_all 61 _ _ rfl rfl wr.heap.size rfl #[.int .i64 v, .int .i64 f] rfl _ _ hz168 2 (by kernel_rfl) rfl rfl (by intro x hx; simp at hx; rcases hx with rfl | rfl <;> rfl) (fun Wz169 pz170 => ?_)
                  replace hB := pz170.below hB (by omega)
                  replace h0 := pz170.other h0 (by omega)
                  replace hz168 : At Wz169 wr.heap.size (.cells #[.int .i64 v, .int .i64 f] 61 (0, 0)) := pz170.at_
                  refine hK' _ _ ?_
                  clear hK' K' pz170
                  refine wpList_nil ?_
                  go_upto_region 13 with (fail)
                  refine wp_region_lit ?_
                  refine ls_ex (some 93) (.pointer (some ⟨wr.heap.size, 0, none⟩)) rfl rfl (exec_fieldAddr 61 _ 0 rfl _ (by kernel_rfl)) ?_
                  go_frame
                  refine ls_ex (some 94) (.int .i64 v) rfl rfl (exec_load_one 2 _ rfl wr.heap.size 0 rfl (.int .i64 v) _ Try.underlying2 rfl (hz168.at_ 0)) ?_
                  go_frame
                  refine ls_ex (some 95) (.pointer (some ⟨w.heap.size, 1, none⟩)) rfl rfl (exec_fieldAddr 36 _ 1 rfl _ (by kernel_rfl)) ?_
                  go_frame
                  refine ls_ex (some 96) (.int .i64 n) rfl rfl (exec_load_one 2 _ rfl w.heap.size 1 rfl (.int .i64 n) _ Try.underlying2 rfl (h0.at_ 1)) ?_
                  go_frame
                  refine ls_ex (some 97) (.pointer (some ⟨w.heap.size, 2, none⟩)) rfl rfl (exec_fieldAddr 36 _ 2 rfl _ (by kernel_rfl)) ?_
                  go_frame
                  refine ls_ex (some 98) (.slice As ss.length cs) rfl rfl (exec_load_one 33 _ rfl w.heap.size 2 rfl (.slice As ss.length cs) _ Try.underlying33 rfl (h0.at_ 2)) ?_
                  go_frame
                  refine ls_ex (some 99) (.int .i64 ss.length) rfl rfl (exec_len _ 33 57 rfl As ss.length cs rfl Try.underlying33) ?_
                  go_frame
                  refine ls_ex (some 100) (.int .i64 (n + ss.length)) rfl rfl (exec_add _ _ _ _ rfl n ss.length (n + ss.length) rfl rfl (IntWalk.i64_in _ (by omega))) ?_
                  go_frame
                  refine ls_ex (some 101) (.int .i64 ((n + ss.length) - 1)) rfl rfl (exec_sub _ _ _ _ rfl ((n + ss.length)) 1 ((n + ss.length) - 1) rfl rfl (IntWalk.i64_in _ (by omega))) ?_
                  go_frame
                  refine ls_op rfl (fun K' hK' => ?_)
                  have lz173 := hB.size
                  have lz174 := h0.lt
                  have lz175 := hz168.lt
                  refine wp_call3 (some 102) rfl 29 _ _ _ _ rfl (fun args w => by kernel_rfl) _ _ _ rfl rfl rfl _ (l01In_c v 0 (((n + ss.length) - 1)) _) (fun e Wz171 h => ?_)
                  obtain ⟨rfl, rfl⟩ := h
                  rw [HV.out]
                  refine ⟨_, rfl, ?_⟩
                  refine hK' _ _ ?_
                  clear hK' K'
                  go_frame
                  refine ls_ex (some 103) (.bool false) rfl rfl (exec_not _ _ rfl true rfl) ?_
                  go_frame
                  refine ls_ex (some 104) (.bool false) rfl rfl (exec_move _ rfl (.bool false) rfl) ?_
                  go_frame
                  refine ls_ex_g (some 105) (.pointer (some ⟨wr.heap.size, 1, none⟩)) rfl rfl (exec_fieldAddr 61 _ 1 rfl _ (by kernel_rfl)) ?_
                  go_frame
                  refine ls_ex_g (some 106) (.int .i64 f) rfl rfl (exec_load_one 2 _ rfl wr.heap.size 1 rfl (.int .i64 f) _ Try.underlying2 rfl (hz168.at_ 1)) ?_
                  go_frame
                  refine ls_ex_g (some 107) (.pointer (some ⟨w.heap.size, 0, none⟩)) rfl rfl (exec_fieldAddr 36 _ 0 rfl _ (by kernel_rfl)) ?_
                  go_frame
                  refine ls_ex_g (some 108) (.int .i64 p) rfl rfl (exec_load_one 2 _ rfl w.heap.size 0 rfl (.int .i64 p) _ Try.underlying2 rfl (h0.at_ 0)) ?_
                  go_frame
                  refine ls_ex_g (some 109) (.int .i64 (p - 1)) rfl rfl (exec_sub _ _ _ _ rfl p 1 (p - 1) rfl rfl (IntWalk.i64_in _ (by omega))) ?_
                  go_frame
                  refine ls_op_g rfl (fun K' hK' => ?_)
                  have lz178 := hB.size
                  have lz179 := h0.lt
                  have lz180 := hz168.lt
                  refine wp_call3 (some 110) rfl 29 _ _ _ _ rfl (fun args w => by kernel_rfl) _ _ _ rfl rfl rfl _ (l01In_c f 0 ((p - 1)) _) (fun e Wz176 h => ?_)
                  obtain ⟨rfl, rfl⟩ := h
                  rw [HF.out]
                  refine ⟨_, rfl, ?_⟩
                  refine hK' _ _ ?_
                  clear hK' K'
                  go_frame
                  refine ls_ex_g (some 111) (.bool false) rfl rfl (exec_not _ _ rfl true rfl) ?_
                  go_frame
                  refine ls_ex (some 112) (.bool false) rfl rfl (exec_pick _ _ _ rfl false rfl (.bool false) rfl) ?_
                  go_frame
                  refine ls_ex (some 113) (.bool false) rfl rfl (exec_move _ rfl (.bool false) rfl) ?_
                  go_frame
                  refine ls_ex_g (some 114) (.pointer (some ⟨wr.heap.size, 1, none⟩)) rfl rfl (exec_fieldAddr 61 _ 1 rfl _ (by kernel_rfl)) ?_
                  go_frame
                  refine ls_ex_g (some 115) (.int .i64 f) rfl rfl (exec_load_one 2 _ rfl wr.heap.size 1 rfl (.int .i64 f) _ Try.underlying2 rfl (hz168.at_ 1)) ?_
                  go_frame
                  refine ls_ex_g (some 116) (.bool true) rfl rfl (exec_eql _ _ _ _ rfl f 0 rfl rfl true HZ.out) ?_
                  go_frame
                  refine ls_ex_g (some 117) (.bool true) rfl rfl (exec_move _ rfl (.bool true) rfl) ?_
                  go_frame
                  refine ls_ex_g (some 118) (.pointer (some ⟨wr.heap.size, 0, none⟩)) rfl rfl (exec_fieldAddr 61 _ 0 rfl _ (by kernel_rfl)) ?_
                  go_frame
                  refine ls_ex_g (some 119) (.int .i64 v) rfl rfl (exec_load_one 2 _ rfl wr.heap.size 0 rfl (.int .i64 v) _ Try.underlying2 rfl (hz168.at_ 0)) ?_
                  go_frame
                  refine ls_ex_g (some 120) (.bool false) rfl rfl (exec_neq _ _ _ _ rfl v 0 rfl rfl false HW.out) ?_
                  go_frame
                  refine ls_ex_g (some 121) (.bool false) rfl rfl (exec_pick _ _ _ rfl true rfl (.bool false) rfl) ?_
                  go_frame
                  refine ls_ex (some 122) (.bool false) rfl rfl (exec_pick _ _ _ rfl false rfl (.bool false) rfl) ?_
                  go_frame
                  refine wpList_nil ?_
                  go_upto_region 11 with (fail)
                  refine wp_region_lit ?_
                  refine ls_ex (some 86) (.int .i64 j) rfl rfl (exec_move _ rfl (.int .i64 j) rfl) ?_
                  go_frame
                  refine ls_ex (some 87) (.int .i64 (j + 1)) rfl rfl (exec_add _ _ _ _ rfl j 1 (j + 1) rfl rfl (IntWalk.i64_in _ (by omega))) ?_
                  go_frame
                  refine ls_ex (some 6) (.int .i64 (j + 1)) rfl rfl (exec_assign _ rfl (.int .i64 (j + 1)) rfl) ?_
                  go_frame
                  refine wpList_nil ?_
                  go_wp2_with fail
                  go_roundw
                  case rel => exact ⟨j + 1, by omega, by go_num, HY, hB, h0⟩
                  case measure => simp [intOf]; omega
                | true =>
                  have HNo : Hid (progB p n ss os = false) := Lib.hid (progB_noO hlt (by rw [hq, outB_sp, hv, hf, hz, hw]; simp))
                  clear hq
                  have HV := Lib.hid hv
                  have HF := Lib.hid hf
                  have HZ := Lib.hid hz
                  have HW := Lib.hid hw
                  clear hv hf hz hw
                  go_upto_region 10 with (fail)
                  refine wp_region_lit ?_
                  refine ls_ex (some 81) (.int .i64 j) rfl rfl (exec_move _ rfl (.int .i64 j) rfl) ?_
                  go_frame
                  refine ls_ex (some 82) (.pointer (some ⟨w.heap.size, 3, none⟩)) rfl rfl (exec_fieldAddr 36 _ 3 rfl _ (by kernel_rfl)) ?_
                  go_frame
                  refine ls_ex (some 83) (.slice (some ⟨b, off, none⟩) os.length co) rfl rfl (exec_load_one 34 _ rfl w.heap.size 3 rfl (.slice (some ⟨b, off, none⟩) os.length co) _ Try.underlying34 rfl (h0.at_ 3)) ?_
                  go_frame
                  refine ls_ex (some 84) (.int .i64 os.length) rfl rfl (exec_len _ 34 61 rfl ((some ⟨b, off, none⟩)) os.length co rfl Try.underlying34) ?_
                  go_frame
                  refine ls_ex (some 85) (.bool true) rfl rfl (exec_lss _ _ _ _ rfl j os.length rfl rfl true (decide_eq_true (by omega))) ?_
                  go_frame
                  refine wpList_nil ?_
                  go_upto_region 12 with (fail)
                  refine wp_region_lit ?_
                  refine ls_ex (some 88) (.pointer (some ⟨w.heap.size, 3, none⟩)) rfl rfl (exec_fieldAddr 36 _ 3 rfl _ (by kernel_rfl)) ?_
                  go_frame
                  refine ls_ex (some 89) (.slice (some ⟨b, off, none⟩) os.length co) rfl rfl (exec_load_one 34 _ rfl w.heap.size 3 rfl (.slice (some ⟨b, off, none⟩) os.length co) _ Try.underlying34 rfl (h0.at_ 3)) ?_
                  go_frame
                  refine ls_ex (some 90) (.int .i64 j) rfl rfl (exec_move _ rfl (.int .i64 j) rfl) ?_
                  go_frame
                  refine ls_ex (some 91) (.pointer (some ⟨b, off + j * 2, none⟩)) rfl rfl (exec_index_slice _ 61 _ _ rfl b off os.length co j 2 rfl rfl Try.underlying34 (by kernel_rfl) (by omega)) ?_
                  go_frame
                  refine ls_ex (some 92) (.agg #[.int .i64 v, .int .i64 f]) rfl rfl (exec_load_2 61 _ rfl b (off + j * 2) rfl v f _ (RdK.cells_2 (ho.keep hB) hlt Hq.out) Try.underlying61 rfl (by kernel_rfl)) ?_
                  go_frame
                  refine ls_op rfl (fun K' hK' => ?_)
                  have lz181 := hB.size
                  have lz182 := h0.lt
                  refine wp_new (some 7) rfl (al_impl_Output rfl) (fun Wz183 nnz184 => ?_)
                  have bz185 := nnz184.below (Below.refl _ _) (Nat.le_refl _)
                  replace hB := below_after hB bz185
                  replace h0 := h0.after bz185
                  have hz186 : At Wz183 wr.heap.size (.cells #[.int .i64 0, .int .i64 0] 61 (0, 0)) := nnz184.at_
                  refine hK' _ _ ?_
                  clear hK' K' nnz184 bz185
                  go_frame
                  refine ls_op rfl (fun K' hK' => ?_)
                  refine wp_store_all 61 _ _ rfl rfl wr.heap.size rfl #[.int .i64 v, .int .i64 f] rfl _ _ hz186 2 (by kernel_rfl) rfl rfl (by intro x hx; simp at hx; rcases hx with rfl | rfl <;> rfl) (fun Wz187 pz188 => ?_)
                  replace hB := pz188.below hB (by omega)
                  replace h0 := pz188.other h0 (by omega)
                  replace hz186 : At Wz187 wr.heap.size (.cells #[.int .i64 v, .int .i64 f] 61 (0, 0)) := pz188.at_
                  refine hK' _ _ ?_
                  clear hK' K' pz188
                  refine wpList_nil ?_
                  go_upto_region 13 with (fail)
                  refine wp_region_lit ?_
                  refine ls_ex (some 93) (.pointer (some ⟨wr.heap.size, 0, none⟩)) rfl rfl (exec_fieldAddr 61 _ 0 rfl _ (by kernel_rfl)) ?_
                  go_frame
                  refine ls_ex (some 94) (.int .i64 v) rfl rfl (exec_load_one 2 _ rfl wr.heap.size 0 rfl (.int .i64 v) _ Try.underlying2 rfl (hz186.at_ 0)) ?_
                  go_frame
                  refine ls_ex (some 95) (.pointer (some ⟨w.heap.size, 1, none⟩)) rfl rfl (exec_fieldAddr 36 _ 1 rfl _ (by kernel_rfl)) ?_
                  go_frame
                  refine ls_ex (some 96) (.int .i64 n) rfl rfl (exec_load_one 2 _ rfl w.heap.size 1 rfl (.int .i64 n) _ Try.underlying2 rfl (h0.at_ 1)) ?_
                  go_frame
                  refine ls_ex (some 97) (.pointer (some ⟨w.heap.size, 2, none⟩)) rfl rfl (exec_fieldAddr 36 _ 2 rfl _ (by kernel_rfl)) ?_
                  go_frame
                  refine ls_ex (some 98) (.slice As ss.length cs) rfl rfl (exec_load_one 33 _ rfl w.heap.size 2 rfl (.slice As ss.length cs) _ Try.underlying33 rfl (h0.at_ 2)) ?_
                  go_frame
                  refine ls_ex (some 99) (.int .i64 ss.length) rfl rfl (exec_len _ 33 57 rfl As ss.length cs rfl Try.underlying33) ?_
                  go_frame
                  refine ls_ex (some 100) (.int .i64 (n + ss.length)) rfl rfl (exec_add _ _ _ _ rfl n ss.length (n + ss.length) rfl rfl (IntWalk.i64_in _ (by omega))) ?_
                  go_frame
                  refine ls_ex (some 101) (.int .i64 ((n + ss.length) - 1)) rfl rfl (exec_sub _ _ _ _ rfl ((n + ss.length)) 1 ((n + ss.length) - 1) rfl rfl (IntWalk.i64_in _ (by omega))) ?_
                  go_frame
                  refine ls_op rfl (fun K' hK' => ?_)
                  have lz191 := hB.size
                  have lz192 := h0.lt
                  have lz193 := hz186.lt
                  refine wp_call3 (some 102) rfl 29 _ _ _ _ rfl (fun args w => by kernel_rfl) _ _ _ rfl rfl rfl _ (l01In_c v 0 (((n + ss.length) - 1)) _) (fun e Wz189 h => ?_)
                  obtain ⟨rfl, rfl⟩ := h
                  rw [HV.out]
                  refine ⟨_, rfl, ?_⟩
                  refine hK' _ _ ?_
                  clear hK' K'
                  go_frame
                  refine ls_ex (some 103) (.bool false) rfl rfl (exec_not _ _ rfl true rfl) ?_
                  go_frame
                  refine ls_ex (some 104) (.bool false) rfl rfl (exec_move _ rfl (.bool false) rfl) ?_
                  go_frame
                  refine ls_ex_g (some 105) (.pointer (some ⟨wr.heap.size, 1, none⟩)) rfl rfl (exec_fieldAddr 61 _ 1 rfl _ (by kernel_rfl)) ?_
                  go_frame
                  refine ls_ex_g (some 106) (.int .i64 f) rfl rfl (exec_load_one 2 _ rfl wr.heap.size 1 rfl (.int .i64 f) _ Try.underlying2 rfl (hz186.at_ 1)) ?_
                  go_frame
                  refine ls_ex_g (some 107) (.pointer (some ⟨w.heap.size, 0, none⟩)) rfl rfl (exec_fieldAddr 36 _ 0 rfl _ (by kernel_rfl)) ?_
                  go_frame
                  refine ls_ex_g (some 108) (.int .i64 p) rfl rfl (exec_load_one 2 _ rfl w.heap.size 0 rfl (.int .i64 p) _ Try.underlying2 rfl (h0.at_ 0)) ?_
                  go_frame
                  refine ls_ex_g (some 109) (.int .i64 (p - 1)) rfl rfl (exec_sub _ _ _ _ rfl p 1 (p - 1) rfl rfl (IntWalk.i64_in _ (by omega))) ?_
                  go_frame
                  refine ls_op_g rfl (fun K' hK' => ?_)
                  have lz196 := hB.size
                  have lz197 := h0.lt
                  have lz198 := hz186.lt
                  refine wp_call3 (some 110) rfl 29 _ _ _ _ rfl (fun args w => by kernel_rfl) _ _ _ rfl rfl rfl _ (l01In_c f 0 ((p - 1)) _) (fun e Wz194 h => ?_)
                  obtain ⟨rfl, rfl⟩ := h
                  rw [HF.out]
                  refine ⟨_, rfl, ?_⟩
                  refine hK' _ _ ?_
                  clear hK' K'
                  go_frame
                  refine ls_ex_g (some 111) (.bool false) rfl rfl (exec_not _ _ rfl true rfl) ?_
                  go_frame
                  refine ls_ex (some 112) (.bool false) rfl rfl (exec_pick _ _ _ rfl false rfl (.bool false) rfl) ?_
                  go_frame
                  refine ls_ex (some 113) (.bool false) rfl rfl (exec_move _ rfl (.bool false) rfl) ?_
                  go_frame
                  refine ls_ex_g (some 114) (.pointer (some ⟨wr.heap.size, 1, none⟩)) rfl rfl (exec_fieldAddr 61 _ 1 rfl _ (by kernel_rfl)) ?_
                  go_frame
                  refine ls_ex_g (some 115) (.int .i64 f) rfl rfl (exec_load_one 2 _ rfl wr.heap.size 1 rfl (.int .i64 f) _ Try.underlying2 rfl (hz186.at_ 1)) ?_
                  go_frame
                  refine ls_ex_g (some 116) (.bool true) rfl rfl (exec_eql _ _ _ _ rfl f 0 rfl rfl true HZ.out) ?_
                  go_frame
                  refine ls_ex_g (some 117) (.bool true) rfl rfl (exec_move _ rfl (.bool true) rfl) ?_
                  go_frame
                  refine ls_ex_g (some 118) (.pointer (some ⟨wr.heap.size, 0, none⟩)) rfl rfl (exec_fieldAddr 61 _ 0 rfl _ (by kernel_rfl)) ?_
                  go_frame
                  refine ls_ex_g (some 119) (.int .i64 v) rfl rfl (exec_load_one 2 _ rfl wr.heap.size 0 rfl (.int .i64 v) _ Try.underlying2 rfl (hz186.at_ 0)) ?_
                  go_frame
                  refine ls_ex_g (some 120) (.bool true) rfl rfl (exec_neq _ _ _ _ rfl v 0 rfl rfl true HW.out) ?_
                  go_frame
                  refine ls_ex_g (some 121) (.bool true) rfl rfl (exec_pick _ _ _ rfl true rfl (.bool true) rfl) ?_
                  go_frame
                  refine ls_ex (some 122) (.bool true) rfl rfl (exec_pick _ _ _ rfl false rfl (.bool true) rfl) ?_
                  go_frame
                  refine wpList_nil ?_
                  go_upto_region 14 with (fail)
                  refine wp_region_lit ?_
                  refine ls_ex (some 2) (.bool false) rfl rfl (exec_assign _ rfl (.bool false) rfl) ?_
                  go_frame
                  refine wpList_nil ?_
                  go_wp2_with fail
                  go_ret
                  exact ⟨by rw [HNo.out]; rfl, hB⟩
        · have HYes : Hid (progB p n ss os = true) := Lib.hid (progB_yes HP.out HN.out (by omega) (by omega) (by omega) HS.out (by rw [← show j = os.length by omega]; exact HO.out))
          clear HO
          go_upto_region 10 with (fail)
          refine wp_region_lit ?_
          refine ls_ex (some 81) (.int .i64 j) rfl rfl (exec_move _ rfl (.int .i64 j) rfl) ?_
          go_frame
          refine ls_ex (some 82) (.pointer (some ⟨w.heap.size, 3, none⟩)) rfl rfl (exec_fieldAddr 36 _ 3 rfl _ (by kernel_rfl)) ?_
          go_frame
          refine ls_ex (some 83) (.slice Ao os.length co) rfl rfl (exec_load_one 34 _ rfl w.heap.size 3 rfl (.slice Ao os.length co) _ Try.underlying34 rfl (h0.at_ 3)) ?_
          go_frame
          refine ls_ex (some 84) (.int .i64 os.length) rfl rfl (exec_len _ 34 61 rfl Ao os.length co rfl Try.underlying34) ?_
          go_frame
          refine ls_ex (some 85) (.bool false) rfl rfl (exec_lss _ _ _ _ rfl j os.length rfl rfl false (decide_eq_false (by omega))) ?_
          go_frame
          refine wpList_nil ?_
          go_upto_region 15 with (fail)
          refine wp_region_lit ?_
          refine ls_ex (some 2) (.bool true) rfl rfl (exec_assign _ rfl (.bool true) rfl) ?_
          go_frame
          refine wpList_nil ?_
          go_wp2_with fail
          go_ret
          exact ⟨by rw [HYes.out]; rfl, hB⟩
theorem l07Is_c (p n : Int) (As Ao : Option Addr) (cs co : Nat) (ss os : List (List Int)) (w : World) (hs : RdK 3 w As ss) (ho : RdK 2 w Ao os) (hns : ss.length ≤ 1048576) (hno : os.length ≤ 1048576) : Calls Try.prog 35 #[.agg #[.int .i64 p, .int .i64 n, .slice As ss.length cs, .slice Ao os.length co]] w (fun e w' => e = .returned (.bool (progB p n ss os)) ∧ Below w.heap.size w w') := by
  cases hp : primeB p with
  | false => exact l07Is_a p n As Ao cs co ss os w hs ho hns hno hp
  | true =>
    cases hn : (decide (1 ≤ n) && decide (n ≤ 30)) with
    | false => exact l07Is_b p n As Ao cs co ss os w hs ho hns hno hp hn
    | true =>
      by_cases hl : ss.length ≤ 900
      · by_cases h1 : os.length < 1
        · exact l07Is_d p n As Ao cs co ss os w hs ho hns hno hp hn hl h1
        · by_cases h2 : 30 < os.length
          · exact l07Is_e p n As Ao cs co ss os w hs ho hns hno hp hn hl h2
          · exact l07Is_f p n As Ao cs co ss os w hs ho hns hno hp hn hl (by omega)
      · exact l07Is_c_ p n As Ao cs co ss os w hs ho hns hno hp hn (by omega)
end Go.Proofs.Ytokmchadckcilaa
