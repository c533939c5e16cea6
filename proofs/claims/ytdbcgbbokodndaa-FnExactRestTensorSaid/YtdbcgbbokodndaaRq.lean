/-
  A list of rows of one's own (OwnQ): it grows by rows of one's own; impl.RestTensor's literal.
-/
import Derived.Test.YtdbcgbbokodndaaRt
import Derived.Test.YtdbcgbbokodndaaTen7Rest
namespace Go.Proofs.Ytdbcgbbokodndaa
open Go.RowKit
set_option maxRecDepth 100000
/-- A list of rows of one's own: vs are the rows' slices, R what they hold, each of length d. -/
structure OwnQ (w : World) (lo : Nat) (v : Value) (d : Nat) (vs : List Value) (R : List (List Int)) : Prop where
  own : w.ownsRow lo 22 1 v R.length vs
  len : vs.length = R.length
  row : ∀ (i : Nat) (q : List Int), R[i]? = some q → ∃ g c Z, vs[i]? = some (Value.slice (some ⟨g, 0, none⟩) d c) ∧ d ≤ c ∧ q.length = d ∧ At w g (.cells (iarZ q Z) 2 (0, 0))
section
variable {w w' : World} {lo d k i : Nat} {v : Value} {vs : List Value} {R : List (List Int)}
theorem OwnQ.below (h : OwnQ w lo v d vs R) (hb : Below w.heap.size w w') : OwnQ w' lo v d vs R :=
  ⟨World.ownsRow.kept (row := none) h.own ⟨hb.os, hb.tape, hb.output, hb.size, fun k hk _ => hb.block k hk⟩ (by
    rcases hv : v.ownBlock with _ | g
    · exact .inl rfl
    · exact .inr (by simp)), h.len, fun i q hq => by
    obtain ⟨g, c, Z, h1, h2, h3, h4⟩ := h.row i q hq
    exact ⟨g, c, Z, h1, h2, h3, h4.after hb⟩⟩
theorem OwnQ.drew (h : OwnQ w lo v d vs R) : OwnQ w.drew lo v d vs R := h.below (Below.refl _ _).drew
/-- Not a block of the list's, nor of its rows'. -/
def OffQ (w : World) (v : Value) (k : Nat) : Prop := some k ≠ v.ownBlock ∧ ∀ g cs, At w g (.cells cs 2 (0, 0)) → g ≠ k
theorem OwnQ.off {cs : Array Value} {t' : TypeId} (h : OwnQ w lo v d vs R) (hg : At w k (.cells cs t' (0, 0))) (ht : t' ≠ 22 ∧ t' ≠ 2) : OffQ w v k := by
  refine ⟨fun e => ?_, fun g cs' hg' e => ?_⟩
  · rcases h.own.2 with ⟨rfl, _⟩ | ⟨g', cap, cur, rfl, hb, hgg, _⟩
    · cases e
    · simp only [Value.ownBlock, Option.some.injEq] at e
      subst e
      have h1 : some (Obj.cells cs t' (0, 0)) = some (Obj.cells cur 22 (0, 0)) := hg.symm.trans hgg
      simp only [Option.some.injEq, Obj.cells.injEq] at h1
      exact ht.1 h1.2.1
  · subst e
    have h1 : some (Obj.cells cs t' (0, 0)) = some (Obj.cells cs' 2 (0, 0)) := hg.symm.trans hg'
    simp only [Option.some.injEq, Obj.cells.injEq] at h1
    exact ht.2 h1.2.1
theorem OwnQ.put {o : Obj} (h : OwnQ w lo v d vs R) (hp : Put w w' k o) (hne : OffQ w v k) : OwnQ w' lo v d vs R := by
  refine ⟨⟨h.own.1, ?_⟩, h.len, fun i q hq => ?_⟩
  · rcases h.own.2 with hn | ⟨g2, cap, cur, rfl, hb, hgg, rest⟩
    · exact .inl hn
    · exact .inr ⟨g2, cap, cur, rfl, hb, hp.other (k := g2) hgg (fun e => hne.1 (by simp [Value.ownBlock, e])), rest⟩
  · obtain ⟨g, c, Z, h1, h2, h3, h4⟩ := h.row i q hq
    exact ⟨g, c, Z, h1, h2, h3, hp.other h4 (hne.2 _ _ h4)⟩
theorem OwnQ.away_new (_ : OwnQ w lo v d vs R) : True := trivial
theorem OwnQ.mono {lo' : Nat} (h : OwnQ w lo v d vs R) (hl : lo' ≤ lo) : OwnQ w lo' v d vs R := by
  refine ⟨⟨h.own.1, ?_⟩, h.len, h.row⟩
  rcases h.own.2 with hn | ⟨g, cap, cur, hv, hb, rest⟩
  · exact .inl hn
  · exact .inr ⟨g, cap, cur, hv, Nat.le_trans hl hb, rest⟩
theorem OwnQ.open (h : OwnQ w lo v d vs R) (h0 : 0 < R.length) : ∃ b c, v = .slice (some ⟨b, 0, none⟩) R.length c := by
  rcases h.own.2 with ⟨_, hn⟩ | ⟨g, cap, cur, hv, _⟩
  · omega
  · exact ⟨g, cap, hv⟩
theorem OwnQ.cell {b n c : Nat} {u : Value} (h : OwnQ w lo (.slice (some ⟨b, 0, none⟩) n c) d vs R) (hu : vs[i]? = some u) : w.cell? ⟨b, i * 1, none⟩ = some u := by
  rcases h.own.2 with ⟨e, _⟩ | ⟨g, cap, cur, hv, hb, hg, hle, hm, hsz, ht⟩
  · cases e
  · simp only [Value.slice.injEq, Option.some.injEq, Addr.mk.injEq] at hv
    obtain ⟨⟨rfl, _, _⟩, rfl, rfl⟩ := hv
    have hi := (List.getElem?_eq_some_iff.1 hu).1
    rw [h.len] at hi
    have h1 : (cur.toList.take (R.length * 1))[i]? = vs[i]? := by rw [ht]
    rw [List.getElem?_take, if_pos (by omega), Array.getElem?_toList] at h1
    have h2 : At w b (.cells cur 22 (0, 0)) := hg
    rw [Nat.mul_one, h2.at_, h1, hu]
theorem OwnQ.rd {g c : Nat} {q : List Int} (h : OwnQ w lo v d vs R) (hu : vs[i]? = some (Value.slice (some ⟨g, 0, none⟩) d c)) (hq : R[i]? = some q) : RdI w (some ⟨g, 0, none⟩) q := by
  obtain ⟨g', c', Z, h1, h2, h3, h4⟩ := h.row i q hq
  rw [hu] at h1
  simp only [Option.some.injEq, Value.slice.injEq, Addr.mk.injEq] at h1
  obtain ⟨⟨rfl, _, _⟩, _, rfl⟩ := h1
  exact .inr ⟨g, 0, rfl, fun j x hj => by have h9 := cell_iarZ h4 hj; rw [Nat.mul_one] at h9; rw [Nat.zero_add]; exact h9⟩
theorem OwnQ.at_ {q : List Int} (h : OwnQ w lo v d vs R) (hq : R[i]? = some q) : ∃ g c, vs[i]? = some (Value.slice (some ⟨g, 0, none⟩) d c) ∧ d ≤ c := by
  obtain ⟨g, c, Z, h1, h2, _⟩ := h.row i q hq
  exact ⟨g, c, h1, h2⟩
theorem OwnQ.one {g b c : Nat} {q : List Int} {Z : List Value} (hl : lo ≤ b) (hb : At w b (.cells #[.slice (some ⟨g, 0, none⟩) d c] 22 (0, 0))) (hg : At w g (.cells (iarZ q Z) 2 (0, 0))) (hq : q.length = d) (hc : d ≤ c) :
    OwnQ w lo (.slice (some ⟨b, 0, none⟩) 1 1) d [.slice (some ⟨g, 0, none⟩) d c] [q] :=
  ⟨⟨by simp, .inr ⟨b, 1, _, rfl, hl, hb, by simp, by unfold maxLen; omega, by simp, by simp⟩⟩, rfl, fun i r hr => by
    cases i with
    | zero => simp at hr; subst hr; exact ⟨g, c, Z, rfl, hc, hq, hg⟩
    | succ i => simp at hr⟩
end
theorem wp_appQ {o : Oper} {a : Act} {w : World} {K : Act → World → Prop} {Q : Exit → Act → World → Prop} (d9 : Option Tmp) (hd : o.dst = d9) (s x : Operand) (ho : o.op = .call { callee := .builtin .append, args := #[s, x], argTypes := #[64, 64] })
    (lo : Nat) (v : Value) (d : Nat) (vs : List Value) (R : List (List Int)) (hs : a.eval s = v) (h0 : OwnQ w lo v d vs R) (g1 c1 : Nat) (q : List Int) (Z : List Value) (hA : At w g1 (.cells (iarZ q Z) 2 (0, 0))) (hq : q.length = d) (hc1 : d ≤ c1) (g : Nat) (hx : a.eval x = .slice (some ⟨g, 0, none⟩) 1 1)
    (hg : At w g (.cells #[.slice (some ⟨g1, 0, none⟩) d c1] 22 (0, 0))) (hle : R.length ≤ 1000000) (hlo : lo ≤ w.heap.size)
    (h : ∀ v' w', OwnQ w' lo v' d (vs ++ [.slice (some ⟨g1, 0, none⟩) d c1]) (R ++ [q]) → w.grownBy w' v.ownBlock → K (a.put d9 v') w') : Oper.wp Try.prog o a w K Q := by
  obtain ⟨i0, hi, hz0, hz1, hz2⟩ := info_parts infoIS
  refine wp_append' d9 hd s x 64 ho lo 22 i0 (.slice none 0 0) 1 24 Try.underlying64 hi hz0 hz1 hz2 rfl (by decide) v _ _ hs h0.own ⟨g, 0, none⟩ 1 1 [.slice (some ⟨g1, 0, none⟩) d c1] hx rfl (by
    intro j u hu
    rw [add_none, Nat.zero_add, hg.at_, ← Array.getElem?_toList]
    exact hu) (by intro y hy; simp at hy; subst hy; rfl) (by unfold maxLen; omega) (by omega) hlo ?_
  intro v1 w8 own8 gr8 _
  refine h v1 w8 ⟨by rw [List.length_append]; exact own8, by simp [h0.len], fun i r hr => ?_⟩ gr8
  have off : ∀ k cs, At w k (.cells cs 2 (0, 0)) → some k ≠ v.ownBlock := fun k cs hk e => by
    rcases h0.own.2 with ⟨rfl, _⟩ | ⟨g', cap, cur, rfl, hb, hgg, _⟩
    · cases e
    · simp only [Value.ownBlock, Option.some.injEq] at e
      subst e
      have h1 : some (Obj.cells cs 2 (0, 0)) = some (Obj.cells cur 22 (0, 0)) := hk.symm.trans hgg
      simp only [Option.some.injEq, Obj.cells.injEq] at h1
      exact absurd h1.2.1 (by decide)
  rcases Nat.lt_or_ge i R.length with hi' | hi'
  · rw [List.getElem?_append_left hi'] at hr
    obtain ⟨g', c', Z', h1, h2, h3, h4⟩ := h0.row i r hr
    exact ⟨g', c', Z', by rw [List.getElem?_append_left (by rw [h0.len]; exact hi')]; exact h1, h2, h3, h4.grown gr8 (off _ _ h4)⟩
  · have hi2 := (List.getElem?_eq_some_iff.1 hr).1
    rw [List.length_append, List.length_singleton] at hi2
    obtain rfl : i = R.length := by omega
    rw [List.getElem?_append_right (Nat.le_refl _), Nat.sub_self] at hr
    simp at hr
    subst hr
    exact ⟨g1, c1, Z, by rw [List.getElem?_append_right (by rw [h0.len]; exact Nat.le_refl _), h0.len, Nat.sub_self]; rfl, hc1, hq, hA.grown gr8 (off _ _ hA)⟩
theorem OwnQ.belowG {w w' w0 : World} {lo d : Nat} {v : Value} {vs : List Value} {R : List (List Int)} (h : Below w0.heap.size w0 w) (gr : w.grownBy w' v.ownBlock) (ho : OwnQ w lo v d vs R) (hl : w0.heap.size ≤ lo) : Below w0.heap.size w0 w' :=
  h.grown gr h.size (fun k hk => by
    rcases ho.own.2 with ⟨rfl, _⟩ | ⟨g', cap, cur, rfl, hb, hgg, _⟩
    · cases hk
    · simp only [Value.ownBlock, Option.some.injEq] at hk
      omega)
end Go.Proofs.Ytdbcgbbokodndaa
