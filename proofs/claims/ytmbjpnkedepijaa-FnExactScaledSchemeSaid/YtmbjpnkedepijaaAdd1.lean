/-
  impl.withProducts, spec.l01Empty; an append of products that are read.
-/
import Derived.Test.YtmbjpnkedepijaaConcat
import Derived.Test.YtmbjpnkedepijaaLK1
namespace Go.Proofs.Ytmbjpnkedepijaa
open Go.RowKit
set_option maxRecDepth 100000
theorem Own.off_lt {w : World} {lo g : Nat} {v : Value} {qs : List (List Nat)} (h : Own w lo v qs) (hg : g < lo) : some g ≠ v.ownBlock := fun e => by
  have := (h.lt e.symm).1
  omega
theorem l01Empty_c (p n m k : Int) (v0 : Value) (w : World) :
    Calls Try.prog 23 #[.agg #[.int .i64 p, .int .i64 n, .int .i64 m, .int .i64 k, v0]] w
      fun e w' => ∃ v, e = .returned (.agg #[.int .i64 p, .int .i64 n, .int .i64 m, .int .i64 k, v]) ∧ Own w' w.heap.size v [] ∧ Below w.heap.size w w' := by
  go_enter Try.func23, Try.ntmps23
  go_wp2_with fail
  refine bodyPost_ret (results_at rfl _ _ (w.heap.size + 1) _ _ _ rfl (al3_1 _ _ _ _) Try.underlying28 rfl 5 (by kernel_rfl) rfl) rfl ?_
  exact ⟨_, rfl, ⟨by simp [u8s], .inr ⟨w.heap.size + 1 + 1, 0, #[], rfl, by omega, al3_2 _ _ _ _, by simp, by simp, by simp, by simp [u8s]⟩⟩, below3 _ _ _ _⟩
/-- An append of products that are read onto products of the call's own. -/
theorem wp_append_rd {o : Oper} {a : Act} {w : World} {K : Act → World → Prop} {Q : Exit → Act → World → Prop} (d : Option Tmp) (hd : o.dst = d) (s x : Operand) (ho : o.op = .call { callee := .builtin .append, args := #[s, x], argTypes := #[26, 26] })
    {lo : Nat} (v : Value) (qs rs : List (List Nat)) (hs : a.eval s = v) (hown : Own w lo v qs) (A : Option Addr) (c : Nat) (hx : a.eval x = .slice A rs.length c) (hr : Rd w A rs) (hc : A = none → c = 0) (hle : qs.length + rs.length ≤ 1000000) (hlo : lo ≤ w.heap.size)
    (h : ∀ v' w', Own w' lo v' (qs ++ rs) → w.grownBy w' v.ownBlock → K (a.put d v') w') : Oper.wp Try.prog o a w K Q := by
  obtain ⟨i0, hi, hz0, hz1, hz2⟩ := info_parts infoProd
  rcases A with _ | ad
  · obtain rfl : c = 0 := hc rfl
    have hrs : rs = [] := by rcases hr.2 with h | ⟨b', off', e, _⟩; exact h; cases e
    subst hrs
    have hrun := run_append_owned_none (P := Try.prog) (w := w) lo 26 o.type 45 i0 27 Try.underlying26 hi v qs.length _ hown
    refine wp_exec d hd v ?_ (h v w (by rw [List.append_nil]; exact hown) (grown_refl _ _))
    unfold execOp
    simp only [ho, resolve, invoke, builtin, Sem.run_bind, Sem.run_pure, Result.andThen_ok, List.map_toArray, List.map_cons, List.map_nil, hs, hx, List.length_nil, hrun]
  · obtain ⟨ab, aoff, asp⟩ := ad
    have hlen := hr.len
    rcases Nat.eq_zero_or_pos rs.length with h0 | hpos
    · have hrs : rs = [] := List.length_eq_zero_iff.1 h0
      subst hrs
      refine wp_append' d hd s x 26 ho lo 45 i0 (.agg (u8s (List.replicate 27 0))) 27 27 Try.underlying26 hi hz0 hz1 hz2 rfl (by decide) v _ _ hs hown ⟨ab, aoff, asp⟩ 0 c [] hx (by simp) (by simp) (by simp) (by unfold maxLen; simp at hle ⊢; omega) (by simp at hle ⊢; omega) hlo ?_
      intro v1 w8 own8 gr8 nil8
      exact h v1 w8 (Own.append (rs := []) (by simpa [u8s] using own8)) gr8
    · have hsp : asp = none := by
        rcases hr.2 with h | ⟨b', off', e, _⟩
        · subst h; simp at hpos
        · simp only [Option.some.injEq, Addr.mk.injEq] at e; exact e.2.2
      subst hsp
      have hcells := Rd.cells hr
      refine wp_append' d hd s x 26 ho lo 45 i0 (.agg (u8s (List.replicate 27 0))) 27 27 Try.underlying26 hi hz0 hz1 hz2 rfl (by decide) v _ _ hs hown ⟨ab, aoff, none⟩ rs.length c (u8s rs.flatten).toList hx (by rw [Array.length_toList, u8s_size, flat_len hlen]) hcells (u8s_one _) (by unfold maxLen; omega) (by omega) hlo ?_
      intro v1 w8 own8 gr8 nil8
      exact h v1 w8 (Own.append own8) gr8
end Go.Proofs.Ytmbjpnkedepijaa
