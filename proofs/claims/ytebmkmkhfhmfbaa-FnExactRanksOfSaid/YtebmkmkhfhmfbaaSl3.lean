/-
  slices.Clone of int64, impl.sliceAt. (Made by mksl3.py.)
-/
import Derived.Test.YtebmkmkhfhmfbaaSl2
namespace Go.Proofs.Ytebmkmkhfhmfbaa
open Go.RowKit
set_option maxRecDepth 100000
theorem exec_eqnil {P : Program} {o : Oper} {a : Act} {w : World} (t rt e : TypeId) (x y : Operand) (ho : o.op = .binOp .eql t x y rt) (hu : P.underlying t = some (.slice e)) (A : Option Addr) (n c : Nat) (hx : a.eval x = .slice A n c) (hy : a.eval y = .slice none 0 0) :
    (execOp a.eval o).run P w = .ok (.value (.bool A.isNone)) w := by
  have h := Lib.run_eql_slice_nil (P := P) w t e A n c 0 0 hu
  unfold execOp
  simp only [ho, hx, hy]
  simp [eqGuard, h]
attribute [local irreducible] wpList
theorem exec_bs0S {o : Oper} {a : Act} {w : World} (ho : o.op = .buildSlice 49 0 #[]) : (execOp a.eval o).run Try.prog w = .ok (.value (.slice (some ⟨w.heap.size, 0, none⟩) 0 0)) (w.alloc (.cells #[] 2 (0, 0))) := by
  unfold execOp
  rw [ho]
  kernel_rfl
theorem own_nilS {w : World} {lo b : Nat} (h : At w b (.cells #[] 2 (0, 0))) (hl : lo ≤ b) : OwnI w lo (.slice (some ⟨b, 0, none⟩) 0 0) [] := ⟨by simp [i64s], .inr ⟨b, 0, #[], rfl, hl, h, by simp, by simp, by simp, by simp [i64s]⟩⟩
theorem i64s_get {ys : List Int} {j : Nat} {u : Value} (h : (i64s ys)[j]? = some u) : ∃ X, ys[j]? = some X ∧ u = .int .i64 X := by
  unfold i64s at h
  rw [List.getElem?_map] at h
  rcases hy : ys[j]? with _ | X
  · rw [hy] at h
    cases h
  · rw [hy, Option.map_some] at h
    exact ⟨X, rfl, by simpa using h.symm⟩
theorem wp_appL {o : Oper} {a : Act} {w : World} {K : Act → World → Prop} {Q : Exit → Act → World → Prop} (d : Option Tmp) (hd : o.dst = d) (s x : Operand) (ho : o.op = .call { callee := .builtin .append, args := #[s, x], argTypes := #[49, 49] })
    {lo : Nat} (v : Value) (ys : List Int) (hs : a.eval s = v) (hown : OwnI w lo v []) (b off N c : Nat) (hx : a.eval x = .slice (some ⟨b, off, none⟩) N c) (hr : RdI w (some ⟨b, off, none⟩) ys) (hl : ys.length = N) (hle : N ≤ 1000000) (hlo : lo ≤ w.heap.size)
    (h : ∀ v' w', OwnI w' lo v' ys → w.grownBy w' v.ownBlock → K (a.put d v') w') : Oper.wp Try.prog o a w K Q := by
  obtain ⟨i0, hi, hz0, hz1, hz2⟩ := info_parts infoI64
  refine wp_append' d hd s x 49 ho lo 2 i0 (.int .i64 0) 1 8 Try.underlying49 hi hz0 hz1 hz2 rfl (by decide) v _ _ hs hown ⟨b, off, none⟩ N c (i64s ys) hx (by simp [i64s, hl]) ?_ (i64s_ones _) (by unfold maxLen; simp; omega) (by simp; omega) hlo ?_
  · intro j u hj
    obtain ⟨X, hX, rfl⟩ := i64s_get hj
    rcases hr with rfl | ⟨b', off', e, hc⟩
    · cases hX
    · simp only [Option.some.injEq, Addr.mk.injEq, and_true] at e
      obtain ⟨rfl, rfl⟩ := e
      have h5 := hc j X hX
      simp only [Addr.add]
      split
      · next e0 =>
        subst e0
        simpa using h5
      · exact h5
  · intro v1 w8 own8 gr8 _
    refine h v1 w8 ?_ gr8
    unfold OwnI
    rw [hl]
    simpa [i64s] using own8
theorem exec_slice2 {o : Oper} {a : Act} {w : World} (x y z : Operand) (ho : o.op = .slice 49 x (some y) (some z) none) (b off N c P M : Nat) (h1 : P + M ≤ N) (h2 : 0 < M ∧ N ≤ c) (hx : a.eval x = .slice (some ⟨b, off, none⟩) N c) (hy : a.eval y = .int .i64 (P : Int)) (hz : a.eval z = .int .i64 ((P + M : Nat) : Int)) :
    (execOp a.eval o).run Try.prog w = .ok (.value (.slice (some ⟨b, off + P, none⟩) M (c - P))) w := by
  have h := run_slice_lh (P := Try.prog) (w := w) 49 (some ⟨b, off, none⟩) N c elem_i64 .i64 .i64 (P : Int) ((P + M : Nat) : Int) (by omega) (by omega) (by omega)
  rw [size_i64] at h
  unfold execOp
  simp only [ho, Option.map_some, Option.map_none, hx, hy, hz, Instr.sliceAt, Sem.run_bind, run_underlying elem_i64, Result.andThen_ok, h]
  simp only [sliced, Int.toNat_natCast]
  rw [if_neg (by omega)]
  simp only [Option.map_some, Addr.add, Nat.mul_one, Nat.add_sub_cancel_left]
  split
  · next e0 =>
    subst e0
    simp
  · rfl
theorem ownI_openC {w : World} {lo n : Nat} {v : Value} {xs : List Int} (h : OwnI w lo v xs) (hn : xs.length = n) (hp : 0 < n) :
    ∃ g c cur, v = .slice (some ⟨g, 0, none⟩) n c ∧ lo ≤ g ∧ n ≤ c ∧ At w g (.cells cur 2 (0, 0)) ∧ n ≤ cur.size ∧ ∀ (t : Nat) (X : Int), xs[t]? = some X → cur[t]? = some (.int .i64 X) := by
  rcases h.2 with ⟨_, h0⟩ | ⟨g, cap, cur, rfl, hb, hgg, hle, hcap, hsz, ht⟩
  · omega
  · refine ⟨g, cap, cur, by rw [hn], hb, by omega, hgg, by omega, fun t X hX => ?_⟩
    have h1 : (i64s xs)[t]? = some (.int .i64 X) := by simp [i64s, hX]
    rw [← ht, List.getElem?_take] at h1
    split at h1
    · rwa [Array.getElem?_toList] at h1
    · cases h1
theorem OwnS.mono {w : World} {lo lo' : Nat} {v : Value} {vs : List Value} (h : OwnS w lo v vs) (hl : lo' ≤ lo) : OwnS w lo' v vs := by
  refine ⟨h.1, ?_⟩
  rcases h.2 with hn | ⟨g, cap, cur, hv, hb, rest⟩
  · exact .inl hn
  · exact .inr ⟨g, cap, cur, hv, Nat.le_trans hl hb, rest⟩
/-- The rows of d numbers of a list. -/
def slR (d : Nat) (ys : List Int) (i : Nat) : List Int := (ys.drop (i * d)).take d
theorem slR_len {b d i : Nat} {ys : List Int} (h : ys.length = b * d) (hi : i < b) : (slR d ys i).length = d := by
  have h1 : (i + 1) * d ≤ b * d := Nat.mul_le_mul_right _ hi
  rw [Nat.succ_mul] at h1
  simp only [slR, List.length_take, List.length_drop]
  omega
theorem slR_tot {b d i : Nat} {ys : List Int} (h : ys.length = b * d) (hi : i ≤ b) : tot (slR d ys) i = i * d := by
  induction i with
  | zero => simp [tot]
  | succ i ih => simp only [tot]; rw [ih (by omega), slR_len h (by omega), Nat.succ_mul]
theorem own_R {w : World} {lo G b d : Nat} {v : Value} {D : Array Value} {ys : List Int} (hS : OwnS w lo v (rowVs G d b)) (hG : At w G (.cells D 2 (0, 0))) (hl : lo ≤ G) (hy : ys.length = b * d) (hD : b * d ≤ D.size) (hb : 0 < b)
    (hn : ∀ (t : Nat) (X : Int), ys[t]? = some X → D[t]? = some (.int .i64 X)) : OwnR w lo w.heap.size v b (slR d ys) := by
  have hlen : (rowVs G d b).length = b := by simp [rowVs]
  rcases hS.2 with ⟨_, h0⟩ | ⟨g, cap, cur, rfl, hlo, hgg, hle, hcap, hsz, ht⟩
  · omega
  · rw [hlen]
    refine .inr ⟨g, cap, cur, G, D, rfl, hgg, ⟨hlo, (Array.getElem?_eq_some_iff.1 hgg).1⟩, fun i hi => ?_, hG, ⟨hl, hG.lt⟩, by rw [slR_tot hy (Nat.le_refl _)]; exact hD, fun i hi t X hX => ?_⟩
    · rw [slR_tot hy (by omega), slR_len hy hi]
      have h1 : (rowVs G d b)[i]? = some (.slice (some ⟨G, i * d, none⟩) d d) := by simp [rowVs, hi]
      rw [← ht, List.getElem?_take] at h1
      split at h1
      · rwa [Array.getElem?_toList] at h1
      · cases h1
    · rw [slR_tot hy (by omega)]
      refine hn _ _ ?_
      simp only [slR, List.getElem?_take, List.getElem?_drop] at hX
      split at hX
      · exact hX
      · cases hX
theorem RdI.part {w : World} {b off P M : Nat} {xs : List Int} (h : RdI w (some ⟨b, off, none⟩) xs) : RdI w (some ⟨b, off + P, none⟩) ((xs.drop P).take M) := by
  rcases h with rfl | ⟨b', off', e, hc⟩
  · left
    simp
  · simp only [Option.some.injEq, Addr.mk.injEq, and_true] at e
    obtain ⟨rfl, rfl⟩ := e
    refine .inr ⟨b, off + P, rfl, fun i x hi => ?_⟩
    rw [Nat.add_assoc]
    refine hc _ _ ?_
    simp only [List.getElem?_take, List.getElem?_drop] at hi
    split at hi
    · exact hi
    · cases hi
end Go.Proofs.Ytebmkmkhfhmfbaa
