/-
  impl.withProducts, spec.l01Empty; an append of products that are read.
-/
import Derived.Test.YtppenoincihoeaaConcat
import Derived.Test.YtppenoincihoeaaLK1
namespace Go.Proofs.Ytppenoincihoeaa
open Go.RowKit
set_option maxRecDepth 100000
theorem Own.off_lt {w : World} {lo g : Nat} {v : Value} {qs : List (List Nat)} (h : Own w lo v qs) (hg : g < lo) : some g ≠ v.ownBlock := fun e => by
  have := (h.lt e.symm).1
  omega
set_option maxHeartbeats 800000 in
theorem withProducts_c (p n m k : Int) (v0 : Value) (hv0 : v0.oneCell' = true) (A : Option Addr) (c : Nat) (ps : List Part) (w : World) (hr : RdS w A ps) (hp : ∀ P ∈ ps, PartOk w P) (hn : ps.length ≤ 1000) (ht : sumP ps ps.length ≤ 1000000) :
    Calls Try.prog 44 #[.agg #[.int .i64 p, .int .i64 n, .int .i64 m, .int .i64 k, v0], .slice A ps.length c] w
      fun e w' => ∃ v, e = .returned (.agg #[.int .i64 p, .int .i64 n, .int .i64 m, .int .i64 k, v]) ∧ Own w' w.heap.size v (catP ps ps.length) ∧ Below w.heap.size w w' := by
  have HP := Lib.hid hp
  have Hv := Lib.hid hv0
  clear hp hv0
  go_enter Try.func44, Try.ntmps44
  go_wp2_with fail
  refine (concat_c A c ps _ (hr.keep (below2 _ _ _)) (fun P h => (HP.out P h).after (below2 _ _ _)) hn ht).mono ?_
  rintro e w1 ⟨v, rfl, ho, b1⟩
  have h0 := At.after (al2_0 w _ _) b1
  have h1 := At.after (al2_1 w _ _) b1
  have hB := below_after (below2 w _ _) b1
  have hv := ho.shp.cells
  have n0 := ho.off h0 (by decide)
  have n1 := ho.off h1 (by decide)
  have hl : w.heap.size ≤ w1.heap.size := hB.size
  rw [size_al2] at ho
  replace ho := ho.mono (show w.heap.size ≤ w.heap.size + 1 + 1 by omega)
  clear b1
  go_wp2_with (first | (refine wpList_store_one rfl 26 _ _ rfl rfl w.heap.size 4 rfl v rfl hv.1 hv.2 _ _ h0 (by kernel_rfl) (by simp) ?_; intro w2 p2; replace h1 := p2.other h1 (by omega); replace ho := ho.put p2 n0; replace hB := p2.below hB (by omega); have h0' : At w2 w.heap.size (.cells #[.int .i64 p, .int .i64 n, .int .i64 m, .int .i64 k, v] 28 (0, 0)) := p2.at_; clear p2 h0) | (refine wpList_load_all rfl 28 _ rfl w.heap.size rfl _ _ _ h0' Try.underlying28 rfl 5 (by kernel_rfl) rfl ?_) | (refine wpList_store_all rfl 28 _ _ rfl rfl (w.heap.size + 1) rfl _ rfl _ _ h1 5 (by kernel_rfl) rfl rfl (by intro x hx; simp at hx; rcases hx with rfl | rfl | rfl | rfl | rfl <;> first | rfl | exact hv.2) ?_; intro w3 p3))
  refine bodyPost_ret (results_at rfl _ _ (w.heap.size + 1) _ _ _ rfl p3.at_ Try.underlying28 rfl 5 (by kernel_rfl) rfl) rfl ?_
  exact ⟨v, rfl, ho.put p3 n1, p3.below hB (by omega)⟩
theorem l01Empty_c (p n m k : Int) (v0 : Value) (w : World) :
    Calls Try.prog 42 #[.agg #[.int .i64 p, .int .i64 n, .int .i64 m, .int .i64 k, v0]] w
      fun e w' => ∃ v, e = .returned (.agg #[.int .i64 p, .int .i64 n, .int .i64 m, .int .i64 k, v]) ∧ Own w' w.heap.size v [] ∧ Below w.heap.size w w' := by
  go_enter Try.func42, Try.ntmps42
  go_wp2_with fail
  refine bodyPost_ret (results_at rfl _ _ (w.heap.size + 1) _ _ _ rfl (al3_1 _ _ _ _) Try.underlying28 rfl 5 (by kernel_rfl) rfl) rfl ?_
  exact ⟨_, rfl, ⟨by simp [u8s], .inr ⟨w.heap.size + 1 + 1, 0, #[], rfl, by omega, al3_2 _ _ _ _, by simp, by simp, by simp, by simp [u8s]⟩⟩, below3 _ _ _ _⟩
/-- An append of products that are read onto products of the call's own. -/
theorem wp_append_rd {o : Oper} {a : Act} {w : World} {K : Act → World → Prop} {Q : Exit → Act → World → Prop} (d : Option Tmp) (hd : o.dst = d) (s x : Operand) (ho : o.op = .call { callee := .builtin .append, args := #[s, x], argTypes := #[26, 26] })
    {lo : Nat} (v : Value) (qs rs : List (List Nat)) (hs : a.eval s = v) (hown : Own w lo v qs) (A : Option Addr) (c : Nat) (hx : a.eval x = .slice A rs.length c) (hr : Rd w A rs) (hc : A = none → c = 0) (hle : qs.length + rs.length ≤ 1000000) (hlo : lo ≤ w.heap.size)
    (h : ∀ v' w', Own w' lo v' (qs ++ rs) → w.grownBy w' v.ownBlock → K (a.put d v') w') : Oper.wp Try.prog o a w K Q := by
  obtain ⟨i0, hi, hz0, hz1, hz2⟩ := info_parts infoProd
  rcases A with _ | ad
  · obtain rfl : c = 0 := hc rfl
    have hrs : rs = [] := by rcases hr.2 with h | ⟨b', off', e, _⟩; exact h; cases e
    subst hrs
    have hrun := run_append_owned_none (P := Try.prog) (w := w) lo 26 o.type 52 i0 27 Try.underlying26 hi v qs.length _ hown
    refine wp_exec d hd v ?_ (h v w (by rw [List.append_nil]; exact hown) (grown_refl _ _))
    unfold execOp
    simp only [ho, resolve, invoke, builtin, Sem.run_bind, Sem.run_pure, Result.andThen_ok, List.map_toArray, List.map_cons, List.map_nil, hs, hx, List.length_nil, hrun]
  · obtain ⟨ab, aoff, asp⟩ := ad
    have hlen := hr.len
    rcases Nat.eq_zero_or_pos rs.length with h0 | hpos
    · have hrs : rs = [] := List.length_eq_zero_iff.1 h0
      subst hrs
      refine wp_append' d hd s x 26 ho lo 52 i0 (.agg (u8s (List.replicate 27 0))) 27 27 Try.underlying26 hi hz0 hz1 hz2 rfl (by decide) v _ _ hs hown ⟨ab, aoff, asp⟩ 0 c [] hx (by simp) (by simp) (by simp) (by unfold maxLen; simp at hle ⊢; omega) (by simp at hle ⊢; omega) hlo ?_
      intro v1 w8 own8 gr8 nil8
      exact h v1 w8 (Own.append (rs := []) (by simpa [u8s] using own8)) gr8
    · have hsp : asp = none := by
        rcases hr.2 with h | ⟨b', off', e, _⟩
        · subst h; simp at hpos
        · simp only [Option.some.injEq, Addr.mk.injEq] at e; exact e.2.2
      subst hsp
      have hcells := Rd.cells hr
      refine wp_append' d hd s x 26 ho lo 52 i0 (.agg (u8s (List.replicate 27 0))) 27 27 Try.underlying26 hi hz0 hz1 hz2 rfl (by decide) v _ _ hs hown ⟨ab, aoff, none⟩ rs.length c (u8s rs.flatten).toList hx (by rw [Array.length_toList, u8s_size, flat_len hlen]) hcells (u8s_one _) (by unfold maxLen; omega) (by omega) hlo ?_
      intro v1 w8 own8 gr8 nil8
      exact h v1 w8 (Own.append own8) gr8
theorem withProducts2_c (p n m k : Int) (v0 : Value) (hv0 : v0.oneCell' = true) (b : Nat) (A1 A2 : Option Addr) (c1 c2 : Nat) (q1 q2 : List (List Nat)) (w : World)
    (hb : At w b (.cells #[.slice A1 q1.length c1, .slice A2 q2.length c2] 26 (0, 0))) (h1 : Rd w A1 q1) (hc1 : A1 = none → c1 = 0) (h2 : Rd w A2 q2) (hc2 : A2 = none → c2 = 0) (ht : q1.length + q2.length ≤ 1000000) :
    Calls Try.prog 44 #[.agg #[.int .i64 p, .int .i64 n, .int .i64 m, .int .i64 k, v0], .slice (some ⟨b, 0, none⟩) 2 2] w
      fun e w' => ∃ v, e = .returned (.agg #[.int .i64 p, .int .i64 n, .int .i64 m, .int .i64 k, v]) ∧ Own w' w.heap.size v (q1 ++ q2) ∧ Below w.heap.size w w' := by
  have h := withProducts_c p n m k v0 hv0 (some ⟨b, 0, none⟩) 2 [(A1, c1, q1), (A2, c2, q2)] w (.inr ⟨b, 0, rfl, fun i P hi => by
      match i, hi with
      | 0, hi => simp at hi; subst hi; exact hb.at_ 0
      | 1, hi => simp at hi; subst hi; exact hb.at_ 1
      | i + 2, hi => simp at hi⟩) (fun P hP => by
      simp only [List.mem_cons, List.not_mem_nil, or_false] at hP
      rcases hP with rfl | rfl
      · exact ⟨h1, hc1⟩
      · exact ⟨h2, hc2⟩) (by simp) (by simp [sumP, Part.len]; omega)
  have e : catP [(A1, c1, q1), (A2, c2, q2)] [(A1, c1, q1), (A2, c2, q2)].length = q1 ++ q2 := by simp [catP]
  rw [e] at h
  exact h
end Go.Proofs.Ytppenoincihoeaa
