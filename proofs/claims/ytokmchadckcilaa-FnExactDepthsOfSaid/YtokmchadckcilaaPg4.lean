/-
  Lists of int64 that grow from nothing (OwnE): an append keeps what lies below the list's least block; spec.l01Own, l05Numbers; the values of a program (valsL), its outputs (runL).
-/
import Derived.Test.YtokmchadckcilaaPg3
import Derived.Test.YtokmchadckcilaaLsI
import Derived.Test.YtokmchadckcilaaTen3
namespace Go.Proofs.Ytokmchadckcilaa
open Go.RowKit
set_option maxRecDepth 100000
theorem exec_bs0I {o : Oper} {a : Act} {w : World} (ho : o.op = .buildSlice 46 0 #[]) : (execOp a.eval o).run Try.prog w = .ok (.value (.slice (some ⟨w.heap.size, 0, none⟩) 0 0)) (w.alloc (.cells #[] 2 (0, 0))) := by
  unfold execOp
  rw [ho]
  kernel_rfl
theorem own_bs0I {w w' : World} (h : New w w' (.cells #[] 2 (0, 0))) : OwnI w' w.heap.size (.slice (some ⟨w.heap.size, 0, none⟩) 0 0) [] :=
  ⟨by simp [i64s], .inr ⟨w.heap.size, 0, #[], rfl, Nat.le_refl _, h.at_, by simp, by simp, by simp, by simp [i64s]⟩⟩
/-- A list of its own whose blocks lie from Z on, or one without any numbers and room. -/
def OwnE (w : World) (Z : Nat) (v : Value) (xs : List Int) : Prop := (∃ b, v = .slice (some ⟨b, 0, none⟩) 0 0 ∧ xs = []) ∨ OwnI w Z v xs
theorem OwnE.start (w : World) (Z b : Nat) : OwnE w Z (.slice (some ⟨b, 0, none⟩) 0 0) [] := .inl ⟨b, rfl, rfl⟩
theorem OwnE.below {w w' : World} {Z : Nat} {v : Value} {xs : List Int} (h : OwnE w Z v xs) (hb : Below w.heap.size w w') : OwnE w' Z v xs := by
  rcases h with h | h
  · exact .inl h
  · exact .inr (h.below hb)
theorem OwnE.keep {w w' : World} {Z : Nat} {v : Value} {xs : List Int} (h : OwnE w Z v xs) (hb : Below w.heap.size w w') : OwnE w' Z v xs := h.below hb
theorem OwnE.drew {w : World} {Z : Nat} {v : Value} {xs : List Int} (h : OwnE w Z v xs) : OwnE w.drew Z v xs := h
theorem OwnE.own {w : World} {Z : Nat} {v : Value} {xs : List Int} (h : OwnE w Z v xs) (hl : 0 < xs.length) : OwnI w Z v xs := by
  rcases h with ⟨b, rfl, rfl⟩ | h
  · simp at hl
  · exact h
theorem OwnE.put {w w' : World} {Z g : Nat} {v : Value} {xs : List Int} {o : Obj} (h : OwnE w Z v xs) (hp : Put w w' g o) (hg : g < Z) : OwnE w' Z v xs := by
  rcases h with h | h
  · exact .inl h
  · exact .inr (h.put2 hp (h.ne_lt2 hg))
theorem OwnI.keepB {w w' : World} {lo Z : Nat} {v : Value} {xs : List Int} (h : OwnI w lo v xs) (i : In lo Z v) (hb : Below Z w w') : OwnI w' lo v xs := by
  refine ⟨h.1, ?_⟩
  rcases h.2 with hn | ⟨g, cap, cur, rfl, hbg, hg, rest⟩
  · exact .inl hn
  · exact .inr ⟨g, cap, cur, rfl, hbg, (hb.block g (i g rfl).2).trans hg, rest⟩
theorem OwnI.form {w : World} {lo : Nat} {v : Value} {xs : List Int} (h : OwnI w lo v xs) (hl : 0 < xs.length) : ∃ g c, v = .slice (some ⟨g, 0, none⟩) xs.length c ∧ lo ≤ g ∧ g < w.heap.size := by
  rcases h.2 with ⟨rfl, h0⟩ | ⟨g, cap, cur, rfl, hb, hgg, _⟩
  · omega
  · exact ⟨g, cap, rfl, hb, (Array.getElem?_eq_some_iff.1 hgg).1⟩
theorem OwnI.cell {w : World} {lo g c n : Nat} {xs : List Int} (h : OwnI w lo (.slice (some ⟨g, 0, none⟩) n c) xs) {i : Nat} (hi : i < xs.length) : w.cell? ⟨g, i, none⟩ = some (.int .i64 (getI xs i)) := by
  obtain ⟨b, off, e, hc⟩ := h.rd'.at_ hi
  simp only [Option.some.injEq, Addr.mk.injEq, and_true] at e
  obtain ⟨rfl, rfl⟩ := e
  rw [Nat.zero_add] at hc
  rw [hc]
  simp [getI, hi]
theorem below_mono {B B' : Nat} {w w' : World} (h : Below B w w') (hl : B' ≤ B) : Below B' w w' := ⟨h.os, h.tape, h.output, h.size, fun k hk => h.block k (by omega)⟩
/-- An append to such a list: what lies below Z is kept. -/
theorem wp_appE {o : Oper} {a : Act} {w : World} {K : Act → World → Prop} {Q : Exit → Act → World → Prop} (d : Option Tmp) (hd : o.dst = d) (s x : Operand) (ho : o.op = .call { callee := .builtin .append, args := #[s, x], argTypes := #[46, 46] })
    {Z : Nat} (v : Value) (xs : List Int) (y : Int) (hs : a.eval s = v) (hown : OwnE w Z v xs) (g : Nat) (hx : a.eval x = .slice (some ⟨g, 0, none⟩) 1 1) (hg : At w g (.cells #[.int .i64 y] 2 (0, 0))) (hle : xs.length ≤ 1000000) (hlo : Z ≤ w.heap.size)
    (h : ∀ v' w', OwnE w' Z v' (xs ++ [y]) → Below Z w w' → K (a.put d v') w') : Oper.wp Try.prog o a w K Q := by
  rcases hown with ⟨b, rfl, rfl⟩ | hown
  · obtain ⟨i0, hi, hz0, hz1, hz2⟩ := info_parts infoI64
    have hcell : ∀ (j : Nat) (u : Value), (i64s [y])[j]? = some u → w.cell? ((⟨g, 0, none⟩ : Addr).add j) = some u := by
      intro j u hu
      have hj : j = 0 := by
        rcases Nat.eq_zero_or_pos j with h0 | h0
        · exact h0
        · rw [List.getElem?_eq_none (by simp [i64s]; omega)] at hu
          cases hu
      subst hj
      have h1 : u = .int .i64 y := by simpa [i64s] using hu.symm
      subst h1
      exact hg.at_ 0
    have hr := run_append_grow (P := Try.prog) w 46 o.type 2 i0 (.int .i64 0) Try.underlying46 hi hz0 ⟨b, 0, none⟩ 0 0 [] (by simp) (by simp) ⟨g, 0, none⟩ 1 1 (i64s [y]) (by simp [i64s, hz1]) hcell (by omega) (by omega) (growslice_fits (by omega) (by rw [hz2]; omega))
    unfold Oper.wp execOp
    simp only [ho, resolve, invoke, builtin, Sem.run_bind, Sem.run_pure, Result.andThen_ok, List.map_toArray, List.map_cons, List.map_nil, hs, hx, hr]
    subst hd
    refine h _ _ (.inr ⟨by simp [i64s], .inr ⟨w.heap.size, _, _, rfl, hlo, heap_alloc_new w.drew _, grownCap_ge _ _ _ _, grownCap_le_maxLen _ _ _ _ (by unfold maxLen; omega), ?_, ?_⟩⟩) ⟨rfl, rfl, rfl, by simp, fun k hk => Below.heap_alloc w.drew _ k (by show k < w.heap.size; omega)⟩
    · have hge : 1 ≤ grownCap w 1 0 2 := grownCap_ge w 1 0 2
      simp only [Array.size_append, size_zeroCells, Value.cells, i64s, List.map_cons, List.map_nil, List.size_toArray, List.length_nil, List.length_cons, Nat.mul_one]
      simp
      omega
    · simp [i64s]
  · subst hd
    refine wp_appI _ rfl s x ho v xs y hs hown g hx hg hle hlo fun v' w' h1 h2 => h v' w' (.inr h1) ?_
    exact ⟨h2.os, h2.tape, h2.output, h2.size, fun k hk => h2.block k (by omega) (fun e => by have := (hown.lt e.symm).1; omega)⟩
/-! ### A list read into a new one -/
theorem wp_appRI {o : Oper} {a : Act} {w : World} {K : Act → World → Prop} {Q : Exit → Act → World → Prop} (d : Option Tmp) (hd : o.dst = d) (s x : Operand) (ho : o.op = .call { callee := .builtin .append, args := #[s, x], argTypes := #[46, 46] })
    {lo : Nat} (v : Value) (xs ys : List Int) (hs : a.eval s = v) (hown : OwnI w lo v xs) (b off c : Nat) (hx : a.eval x = .slice (some ⟨b, off, none⟩) ys.length c) (hr : RdI w (some ⟨b, off, none⟩) ys) (hle : xs.length + ys.length ≤ 1048576) (hlo : lo ≤ w.heap.size)
    (h : ∀ v' w', OwnI w' lo v' (xs ++ ys) → w.grownBy w' v.ownBlock → K (a.put d v') w') : Oper.wp Try.prog o a w K Q := by
  obtain ⟨i0, hi, hz0, hz1, hz2⟩ := info_parts infoI64
  refine wp_append' d hd s x 46 ho lo 2 i0 (.int .i64 0) 1 8 Try.underlying46 hi hz0 hz1 hz2 rfl (by decide) v _ _ hs hown ⟨b, off, none⟩ ys.length c (i64s ys) hx (by simp [i64s]) ?_ (i64s_ones2 _) (by unfold maxLen; omega) (by omega) hlo ?_
  · intro j u hu
    have hj : j < ys.length := by have := (List.getElem?_eq_some_iff.1 hu).1; simpa [i64s] using this
    obtain ⟨b', off', e, hc⟩ := hr.at_ hj
    simp only [Option.some.injEq, Addr.mk.injEq, and_true] at e
    obtain ⟨rfl, rfl⟩ := e
    rw [add_none, hc]
    simpa [i64s, hj] using hu
  · intro v1 w8 own8 gr8 _
    refine h v1 w8 ?_ gr8
    unfold OwnI
    rw [show i64s (xs ++ ys) = i64s xs ++ i64s ys by simp [i64s], List.length_append]
    exact own8
set_option maxHeartbeats 800000 in
theorem l01Own_c (A : Option Addr) (c : Nat) (xs : List Int) (w : World) (hr : RdI w A xs) (hl : 0 < xs.length) (hn : xs.length ≤ 1048576) :
    Calls Try.prog 59 #[.slice A xs.length c] w fun e w' => ∃ v, e = .returned v ∧ OwnI w' w.heap.size v xs ∧ Below w.heap.size w w' := by
  obtain ⟨b, off, rfl, _⟩ := hr.at_ hl
  go_enter Try.func59, Try.ntmps59
  go_upto_region 1 with (fail)
  refine wp_region_lit ?_
  refine ls_op rfl (fun K' hK' => ?_)
  refine wp_new (some 3) rfl (exec_bs0I rfl) (fun W1 n1 => ?_)
  have hB := n1.below (Below.refl w.heap.size w) (Nat.le_refl _)
  have ho := own_bs0I n1
  refine hK' _ _ ?_
  clear hK' K'
  go_frame
  refine ls_ex (some 4) (.slice (some ⟨b, off, none⟩) xs.length c) rfl rfl (exec_move _ rfl (.slice (some ⟨b, off, none⟩) xs.length c) rfl) ?_
  go_frame
  refine ls_op rfl (fun K' hK' => ?_)
  refine wp_appRI (some 5) rfl _ _ rfl (.slice (some ⟨w.heap.size, 0, none⟩) 0 0) [] xs rfl ho b off c rfl (hr.keep hB) (by simpa using hn) (by have := hB.size; omega) (fun v W2 ho2 gr => ?_)
  have hB2 := below_grownI hB gr ho (Nat.le_refl _)
  refine hK' _ _ ?_
  clear hK' K' gr ho
  go_frame
  refine ls_op rfl (fun K' hK' => ?_)
  refine wp_exec (some 2) rfl v (exec_assign _ rfl v rfl) ?_
  refine hK' _ _ ?_
  clear hK' K'
  go_frame
  refine wpList_nil ?_
  go_wp2_with fail
  go_ret
  exact ⟨v, rfl, by simpa using ho2, hB2⟩
/-! ### The values of a program -/
def stepV (p : Int) (vs : List Int) (q : List Int) : Int := (getI vs (k0 q).toNat + k2 q * getI vs (k1 q).toNat).tmod p
def outV (p : Int) (vs : List Int) (q : List Int) : Int := (k1 q * getI vs (k0 q).toNat).tmod p
/-- The values behind the first k steps. -/
def valsL (p : Int) (ss : List (List Int)) (xs : List Int) : Nat → List Int
  | 0 => xs
  | k + 1 => valsL p ss xs k ++ [stepV p (valsL p ss xs k) (ss[k]?.getD [])]
/-- The first j outputs. -/
def outsL (p : Int) (os : List (List Int)) (vs : List Int) : Nat → List Int
  | 0 => []
  | j + 1 => outsL p os vs j ++ [outV p vs (os[j]?.getD [])]
def runL (p : Int) (ss os : List (List Int)) (xs : List Int) : List Int := outsL p os (valsL p ss xs ss.length) os.length
theorem valsL_len (p : Int) (ss : List (List Int)) (xs : List Int) (k : Nat) : (valsL p ss xs k).length = xs.length + k := by
  induction k with
  | zero => simp [valsL]
  | succ k ih => simp only [valsL, List.length_append, ih, List.length_cons, List.length_nil]; omega
theorem outsL_len (p : Int) (os : List (List Int)) (vs : List Int) (j : Nat) : (outsL p os vs j).length = j := by
  induction j with
  | zero => simp [outsL]
  | succ j ih => simp only [outsL, List.length_append, ih, List.length_cons, List.length_nil]
theorem valsL_step (p : Int) {ss : List (List Int)} (xs : List Int) {k : Nat} (hk : k < ss.length) : valsL p ss xs (k + 1) = valsL p ss xs k ++ [stepV p (valsL p ss xs k) ss[k]] := by
  simp [valsL, hk]
theorem outsL_step (p : Int) {os : List (List Int)} (vs : List Int) {j : Nat} (hj : j < os.length) : outsL p os vs (j + 1) = outsL p os vs j ++ [outV p vs os[j]] := by
  simp [outsL, hj]
theorem stp_at {p n : Int} {ss os : List (List Int)} (hs : ∀ q ∈ ss, q.length = 3) (h : progB p n ss os = true) {k : Nat} (hk : k < ss.length) : ∃ (L R : Nat) (f : Int), ss[k] = [(L : Int), (R : Int), f] ∧ (L : Int) < n + k ∧ (R : Int) < n + k ∧ L ≠ R ∧ 1 ≤ f ∧ f ≤ p - 1 := by
  have h1 := stepsB_at (progB_parts h).2.2.2.2.1 k hk
  rw [List.getElem?_eq_getElem hk, Option.getD_some] at h1
  obtain ⟨l, r, f, hq⟩ := row3 (hs _ (List.getElem_mem hk))
  rw [hq, stepB_sp] at h1
  simp only [Bool.and_eq_true, decide_eq_true_eq, Bool.not_eq_true', beq_eq_false_iff_ne] at h1
  obtain ⟨L, rfl⟩ := Int.eq_ofNat_of_zero_le h1.1.1.1.1
  obtain ⟨R, rfl⟩ := Int.eq_ofNat_of_zero_le h1.1.1.2.1
  exact ⟨L, R, f, hq, by omega, by omega, by omega, by omega, by omega⟩
theorem otp_at {p n : Int} {ss os : List (List Int)} (ho : ∀ q ∈ os, q.length = 2) (h : progB p n ss os = true) {j : Nat} (hj : j < os.length) : ∃ (V : Nat) (f : Int), os[j] = [(V : Int), f] ∧ (V : Int) < n + ss.length ∧ 0 ≤ f ∧ f ≤ p - 1 ∧ (f = 0 → V = 0) := by
  have h1 := outsB_at (progB_parts h).2.2.2.2.2 j hj
  rw [List.getElem?_eq_getElem hj, Option.getD_some] at h1
  obtain ⟨v, f, hq⟩ := row2 (ho _ (List.getElem_mem hj))
  rw [hq, outB_sp] at h1
  simp only [Bool.and_eq_true, decide_eq_true_eq, Bool.not_eq_true', Bool.and_eq_false_iff, beq_eq_false_iff_ne, bne_eq_false_iff_eq] at h1
  obtain ⟨V, rfl⟩ := Int.eq_ofNat_of_zero_le h1.1.1.1
  exact ⟨V, f, hq, by omega, by omega, by omega, by omega⟩
/-- Numbers modulo p, at every place. -/
def NumsP (p : Int) (vs : List Int) : Prop := ∀ k, 0 ≤ getI vs k ∧ getI vs k < p
theorem NumsP.of_numsB {p : Int} {xs : List Int} (h : numsB p xs = true) (hp : 0 < p) : NumsP p xs := fun k => by
  unfold getI
  cases hk : xs[k]? with
  | none => simp; omega
  | some x =>
    unfold numsB at h
    have := List.all_eq_true.1 h x (List.mem_of_getElem? hk)
    simp only [inB, Bool.and_eq_true, decide_eq_true_eq] at this
    simpa using this
theorem tmod_b {p x : Int} (hp : 0 < p) (hx : 0 ≤ x) : 0 ≤ x.tmod p ∧ x.tmod p < p := ⟨Int.tmod_nonneg _ hx, Int.tmod_lt_of_pos _ hp⟩
theorem NumsP.snoc {p : Int} {vs : List Int} {y : Int} (h : NumsP p vs) (hy : 0 ≤ y ∧ y < p) : NumsP p (vs ++ [y]) := fun k => by
  unfold getI
  by_cases e : k < vs.length
  · rw [List.getElem?_append_left e]; exact h k
  · by_cases e2 : k = vs.length
    · subst e2; simpa using hy
    · rw [List.getElem?_eq_none (by simp; omega)]; simp; omega
theorem mul25 {p a b : Int} (hp : p ≤ 5) (ha : 0 ≤ a) (ha' : a < p) (hb : 0 ≤ b) (hb' : b < p) : 0 ≤ a * b ∧ a * b ≤ 25 := by
  have h1 : a * b ≤ 5 * 5 := Int.mul_le_mul (by omega) (by omega) hb (by omega)
  exact ⟨Int.mul_nonneg ha hb, by omega⟩
theorem stepV_b {p n : Int} {ss os : List (List Int)} {vs : List Int} {k : Nat} (h : progB p n ss os = true) (hs : ∀ q ∈ ss, q.length = 3) (hv : NumsP p vs) (hk : k < ss.length) : 0 ≤ stepV p vs ss[k] ∧ stepV p vs ss[k] < p := by
  have hp := primeB_bounds (progB_parts h).1
  obtain ⟨L, R, f, hq, _, _, _, hf1, hf2⟩ := stp_at hs h hk
  rw [hq]
  have hm := mul25 hp.2 (show 0 ≤ f by omega) (show f < p by omega) (hv R).1 (hv R).2
  exact tmod_b (by omega) (by have := (hv L).1; show 0 ≤ getI vs (L : Int).toNat + f * getI vs (R : Int).toNat; simp only [Int.toNat_natCast]; omega)
theorem valsL_nums {p n : Int} {ss os : List (List Int)} {xs : List Int} (h : progB p n ss os = true) (hs : ∀ q ∈ ss, q.length = 3) (hx : NumsP p xs) : ∀ k, k ≤ ss.length → NumsP p (valsL p ss xs k) := by
  intro k
  induction k with
  | zero => intro _; exact hx
  | succ k ih =>
    intro hk
    rw [valsL_step p xs (show k < ss.length by omega)]
    exact (ih (by omega)).snoc (stepV_b h hs (ih (by omega)) (by omega))
end Go.Proofs.Ytokmchadckcilaa
