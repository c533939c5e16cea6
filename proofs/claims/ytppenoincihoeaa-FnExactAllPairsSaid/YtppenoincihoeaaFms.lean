/-
  Lists of forms; spec.l10FormsOf, impl.smallForms. (Made by mkfms.py.)
-/
import Derived.Test.YtppenoincihoeaaPrR
import Derived.Test.YtppenoincihoeaaHeldT
namespace Go.Proofs.Ytppenoincihoeaa
open Go.RowKit
set_option maxRecDepth 100000
attribute [local irreducible] wpList
/-- The slice value over 'A', of as many elements as 'qs', reads as the products 'qs'. -/
def RdW (w : World) (A : Option Addr) (qs : List (List Nat)) : Prop :=
  (∀ q ∈ qs, Bytes 9 q) ∧ (qs = [] ∨ ∃ b off, A = some ⟨b, off, none⟩ ∧ ∀ (i : Nat) (q : List Nat), qs[i]? = some q → ∀ j, j < 9 → w.cell? ⟨b, off + i * 9 + j, none⟩ = some (.int .u8 ((q[j]?.getD 0 : Nat) : Int)))
theorem RdW.good {w : World} {A : Option Addr} {qs : List (List Nat)} (h : RdW w A qs) : ∀ q ∈ qs, Bytes 9 q := h.1
theorem RdW.len {w : World} {A : Option Addr} {qs : List (List Nat)} (h : RdW w A qs) : ∀ q ∈ qs, q.length = 9 := fun q hq => (h.1 q hq).len
theorem RdW.at_ {w : World} {A : Option Addr} {qs : List (List Nat)} (h : RdW w A qs) {i : Nat} (hi : i < qs.length) :
    ∃ b off, A = some ⟨b, off, none⟩ ∧ ∀ j, j < 9 → w.cell? ⟨b, off + i * 9 + j, none⟩ = some (.int .u8 ((qs[i][j]?.getD 0 : Nat) : Int)) := by
  rcases h.2 with rfl | ⟨b, off, hA, hc⟩
  · simp at hi
  · exact ⟨b, off, hA, hc i qs[i] (List.getElem?_eq_getElem hi)⟩
theorem RdW.keep {w w' : World} {A : Option Addr} {qs : List (List Nat)} (h : RdW w A qs) (hb : Below w.heap.size w w') : RdW w' A qs := by
  refine ⟨h.1, ?_⟩
  rcases h.2 with h0 | ⟨b, off, hA, hc⟩
  · exact .inl h0
  · refine .inr ⟨b, off, hA, fun i q hi j hj => ?_⟩
    have := hc i q hi j hj
    rw [hb.cell (p := ⟨b, off + i * 9 + j, none⟩) (block_lt_of_cell this)]
    exact this
theorem RdW.of_at {w : World} {g : Nat} {t : TypeId} {qs : List (List Nat)} (h : At w g (.cells (u8s qs.flatten) t (0, 0))) (hq : ∀ q ∈ qs, Bytes 9 q) : RdW w (some ⟨g, 0, none⟩) qs := by
  refine ⟨hq, .inr ⟨g, 0, rfl, fun i q hi j hj => ?_⟩⟩
  have hl : ∀ q ∈ qs, q.length = 9 := fun q hm => (hq q hm).len
  have hlt : i < qs.length := (List.getElem?_eq_some_iff.1 hi).1
  have e := flat_get hl hi hj
  have hb : i * 9 + j < qs.flatten.length := by
    rw [flat_len hl]
    have : (i + 1) * 9 ≤ qs.length * 9 := Nat.mul_le_mul_right _ hlt
    omega
  have := h.cell hb
  rw [e] at this
  simpa using this
theorem RdW.none_ (w : World) (A : Option Addr) : RdW w A [] := ⟨by simp, .inl rfl⟩
theorem RdW.drewN {w : World} {A : Option Addr} {qs : List (List Nat)} (h : RdW w A qs) (n : Nat) : RdW (w.drewN n) A qs := h
theorem RdW.after {w w' : World} {A : Option Addr} {qs : List (List Nat)} (h : RdW w A qs) (hb : Below w.heap.size w w') : RdW w' A qs := h.keep hb
def OwnW (w : World) (lo : Nat) (v : Value) (qs : List (List Nat)) : Prop := w.ownsRow lo 49 9 v qs.length (u8s qs.flatten).toList
theorem OwnW.shp {w : World} {lo : Nat} {v : Value} {qs : List (List Nat)} (h : OwnW w lo v qs) : Shp v qs.length := by
  rcases h.2 with ⟨hv, hn⟩ | ⟨g, cap, cur, hv, _⟩
  · exact .inl ⟨hv, hn⟩
  · exact .inr ⟨g, cap, hv⟩
theorem OwnW.lt {w : World} {lo : Nat} {v : Value} {qs : List (List Nat)} (h : OwnW w lo v qs) {g : Nat} (hg : v.ownBlock = some g) : lo ≤ g ∧ g < w.heap.size := by
  rcases h.2 with ⟨rfl, _⟩ | ⟨g', cap, cur, rfl, hb, hgg, _⟩
  · cases hg
  · simp only [Value.ownBlock, Option.some.injEq] at hg
    subst hg
    exact ⟨hb, (Array.getElem?_eq_some_iff.1 hgg).1⟩
theorem OwnW.below {w w' : World} {lo : Nat} {v : Value} {qs : List (List Nat)} (h : OwnW w lo v qs) (hb : Below w.heap.size w w') : OwnW w' lo v qs :=
  World.ownsRow.kept (row := none) h ⟨hb.os, hb.tape, hb.output, hb.size, fun k hk _ => hb.block k hk⟩ (by
    rcases hv : v.ownBlock with _ | g
    · exact .inl rfl
    · exact .inr (by simp))
theorem OwnW.drew {w : World} {lo : Nat} {v : Value} {qs : List (List Nat)} (h : OwnW w lo v qs) : OwnW w.drew lo v qs := h
theorem OwnW.grown {w w' : World} {lo : Nat} {v : Value} {qs : List (List Nat)} {r : Option Nat} (h : OwnW w lo v qs) (hb : w.grownBy w' r) (hne : v.ownBlock = none ∨ v.ownBlock ≠ r) : OwnW w' lo v qs :=
  World.ownsRow.kept h hb hne
theorem OwnW.mono {w : World} {lo lo' : Nat} {v : Value} {qs : List (List Nat)} (h : OwnW w lo v qs) (hl : lo' ≤ lo) : OwnW w lo' v qs := by
  refine ⟨h.1, ?_⟩
  rcases h.2 with hn | ⟨g, cap, cur, hv, hb, rest⟩
  · exact .inl hn
  · exact .inr ⟨g, cap, cur, hv, Nat.le_trans hl hb, rest⟩
/-- Such a slice value, written out; it reads as the products. -/
theorem OwnW.rd {w : World} {lo : Nat} {v : Value} {qs : List (List Nat)} (h : OwnW w lo v qs) (hq : ∀ q ∈ qs, Bytes 9 q) : ∃ A c, v = .slice A qs.length c ∧ RdW w A qs := by
  rcases h.2 with ⟨rfl, h0⟩ | ⟨g, cap, cur, rfl, hb, hgg, hle, hcap, hsz, ht⟩
  · have : qs = [] := List.length_eq_zero_iff.1 h0
    subst this
    exact ⟨none, 0, rfl, RdW.none_ _ _⟩
  · refine ⟨_, _, rfl, hq, .inr ⟨g, 0, rfl, fun i q hi j hj => ?_⟩⟩
    have hl : ∀ q ∈ qs, q.length = 9 := fun q hm => (hq q hm).len
    have hlt : i < qs.length := (List.getElem?_eq_some_iff.1 hi).1
    have e := flat_get hl hi hj
    have hb : i * 9 + j < qs.flatten.length := by
      rw [flat_len hl]
      have : (i + 1) * 9 ≤ qs.length * 9 := Nat.mul_le_mul_right _ hlt
      omega
    have hA : At w g (.cells cur 49 (0, 0)) := hgg
    rw [hA.at_, Nat.zero_add, ← Array.getElem?_toList]
    have h1 : (cur.toList.take (qs.length * 9))[i * 9 + j]? = (u8s qs.flatten).toList[i * 9 + j]? := by rw [ht]
    rw [List.getElem?_take, if_pos (by rw [← flat_len hl]; exact hb)] at h1
    rw [h1, Array.getElem?_toList, u8s_get hb, e]
/-- New products in a block of just their size. -/
theorem OwnW.of_at {w : World} {lo g : Nat} {qs : List (List Nat)} (h : At w g (.cells (u8s qs.flatten) 49 (0, 0))) (hq : ∀ q ∈ qs, q.length = 9) (hl : lo ≤ g) (hn : qs.length ≤ 1048576) : OwnW w lo (.slice (some ⟨g, 0, none⟩) qs.length qs.length) qs := by
  refine ⟨by rw [Array.length_toList, u8s_size, flat_len hq], .inr ⟨g, qs.length, u8s qs.flatten, rfl, hl, h, Nat.le_refl _, by unfold maxLen; omega, by rw [u8s_size, flat_len hq], ?_⟩⟩
  rw [List.take_of_length_le (by rw [Array.length_toList, u8s_size, flat_len hq]; exact Nat.le_refl _)]
theorem below_grownW {w0 w w' : World} {v : Value} {lo : Nat} {qs : List (List Nat)} (h : Below w0.heap.size w0 w) (hb : w.grownBy w' v.ownBlock) (ho : OwnW w lo v qs) (hl : w0.heap.size ≤ lo) : Below w0.heap.size w0 w' :=
  h.grown hb h.size (fun k hk => by have := (ho.lt hk).1; omega)
theorem OwnW.ne {w w' : World} {lo lo' : Nat} {v v' : Value} {qs qs' : List (List Nat)} (h : OwnW w lo v qs) (h' : OwnW w' lo' v' qs') (hl : w.heap.size ≤ lo') : v.ownBlock = none ∨ v.ownBlock ≠ v'.ownBlock := by
  rcases hv : v.ownBlock with _ | g
  · exact .inl rfl
  · refine .inr fun e => ?_
    have h1 := (h.lt hv).2
    have h2 := (h'.lt e.symm).1
    omega
theorem OwnW.away {w w' : World} {lo' g : Nat} {v' : Value} {qs' : List (List Nat)} {o : Obj} (h : At w g o) (h' : OwnW w' lo' v' qs') (hl : w.heap.size ≤ lo') : some g ≠ v'.ownBlock := fun e => by
  have h1 := h.lt
  have h2 := (h'.lt e.symm).1
  omega
theorem OwnW.away_new {w : World} {lo' : Nat} {v' : Value} {qs' : List (List Nat)} (h' : OwnW w lo' v' qs') : some w.heap.size ≠ v'.ownBlock := fun e => by
  have h2 := (h'.lt e.symm).2
  omega
theorem OwnW.rd' {w : World} {lo : Nat} {A : Option Addr} {c n : Nat} {qs : List (List Nat)} (h : OwnW w lo (.slice A n c) qs) (hq : ∀ q ∈ qs, Bytes 9 q) : RdW w A qs := by
  obtain ⟨A', c', e, hr⟩ := h.rd hq
  simp only [Value.slice.injEq] at e
  rw [e.1]
  exact hr
theorem OwnW.len {w : World} {lo : Nat} {A : Option Addr} {c n : Nat} {qs : List (List Nat)} (h : OwnW w lo (.slice A n c) qs) : n = qs.length := by
  rcases h.2 with ⟨e, h0⟩ | ⟨g, cap, cur, e, _⟩
  · simp only [Value.slice.injEq] at e
    omega
  · simp only [Value.slice.injEq] at e
    exact e.2.1
theorem OwnW.off {w : World} {lo g : Nat} {v : Value} {qs : List (List Nat)} {cs : Array Value} {t : TypeId} (h : OwnW w lo v qs) (hg : At w g (.cells cs t (0, 0))) (ht : t ≠ 49) : some g ≠ v.ownBlock := fun e => by
  rcases h.2 with ⟨rfl, _⟩ | ⟨g', cap, cur, rfl, hb, hgg, _⟩
  · cases e
  · simp only [Value.ownBlock, Option.some.injEq] at e
    subst e
    have h1 : some (Obj.cells cs t (0, 0)) = some (Obj.cells cur 49 (0, 0)) := hg.symm.trans hgg
    simp only [Option.some.injEq, Obj.cells.injEq] at h1
    exact ht h1.2.1
theorem OwnW.put {w w' : World} {lo g : Nat} {v : Value} {qs : List (List Nat)} {o : Obj} (h : OwnW w lo v qs) (hp : Put w w' g o) (hne : some g ≠ v.ownBlock) : OwnW w' lo v qs := by
  refine ⟨h.1, ?_⟩
  rcases h.2 with hn | ⟨g2, cap, cur, rfl, hb, hgg, rest⟩
  · exact .inl hn
  · exact .inr ⟨g2, cap, cur, rfl, hb, hp.other (k := g2) hgg (fun e => hne (by simp [Value.ownBlock, e])), rest⟩
theorem OwnW.inn {w : World} {lo : Nat} {v : Value} {qs : List (List Nat)} (h : OwnW w lo v qs) : In lo w.heap.size v := fun _ hg => h.lt hg
theorem OwnW.same {w w' : World} {lo hi lo' hi' : Nat} {v : Value} {qs : List (List Nat)} (h : OwnW w lo v qs) (i : In lo hi v) (hs : Same lo' hi' w w') (hd : hi ≤ lo' ∨ hi' ≤ lo) : OwnW w' lo v qs := kept_same (w := w) h i hs hd
theorem OwnW.nil (w : World) (lo : Nat) : OwnW w lo (.slice none 0 0) [] := World.ownsRow_nil _ _ _ _
theorem OwnW.ne_lt {w : World} {lo g : Nat} {v : Value} {qs : List (List Nat)} (h : OwnW w lo v qs) (hg : g < lo) : some g ≠ v.ownBlock := fun e => by
  have := (h.lt e.symm).1
  omega
theorem OwnW.rdc' {w : World} {lo : Nat} {v : Value} {qs : List (List Nat)} (h : OwnW w lo v qs) (hq : ∀ q ∈ qs, Bytes 9 q) : ∃ A c, v = .slice A qs.length c ∧ RdW w A qs ∧ (A = none → c = 0) := by
  rcases h.2 with ⟨rfl, h0⟩ | ⟨g, cap, cur, rfl, _⟩
  · have : qs = [] := List.length_eq_zero_iff.1 h0
    subst this
    exact ⟨none, 0, rfl, RdW.none_ _ _, fun _ => rfl⟩
  · obtain ⟨A, c, e, hr⟩ := h.rd hq
    refine ⟨A, c, e, hr, fun hA => ?_⟩
    subst hA
    simp at e
theorem infoW : (Try.prog.info? 49).map (fun i => (i.zero, i.size, i.bytes)) = some (some (.agg (u8s (List.replicate 9 0))), 9, 9) := by kernel_rfl
theorem zeroW9 : ((Array.range (1 * 9)).map ((Value.agg (u8s (List.replicate 9 0))).cells[· % (Value.agg (u8s (List.replicate 9 0))).cells.size]!)) = u8s (List.replicate 9 0) := by kernel_rfl
theorem run_buildSlice1W {P : Program} (w : World) (t e : TypeId) (q : List Nat) (hu : P.underlying t = some (.slice e))
    (hi : (P.info? e).map (fun i => (i.zero, i.size, i.bytes)) = some (some (.agg (u8s (List.replicate 9 0))), 9, 9)) (hq : q.length = 9) :
    (Instr.buildSlice t 1 #[(0, .agg (u8s q))]).run P w = .ok (.slice (some ⟨w.heap.size, 0, none⟩) 1 1) (w.alloc (.cells (u8s q) e)) := by
  obtain ⟨i, hi0, hz, h1, h2⟩ := info_parts hi
  refine run_buildSlice w t e 1 _ (u8s q) i _ hu hi0 hz (by rw [h1]; omega) (by rw [h1]; omega) ?_
  rw [h1, zeroW9]
  rw [fill_u8s (fun i => some (i * 9, 9)) (List.replicate 9 0) q 0 0 9 [] rfl hq (by simp), over_all (by simp [hq])]
  rfl
section
variable {P : Program} {o : Oper} {a : Act} {w : World}
theorem exec_buildSlice1W (t e : TypeId) (x : Operand) (ho : o.op = .buildSlice t 1 #[(0, x)]) (q : List Nat) (hx : a.eval x = .agg (u8s q)) (hu : P.underlying t = some (.slice e))
    (hi : (P.info? e).map (fun i => (i.zero, i.size, i.bytes)) = some (some (.agg (u8s (List.replicate 9 0))), 9, 9)) (hq : q.length = 9) :
    (execOp a.eval o).run P w = .ok (.value (.slice (some ⟨w.heap.size, 0, none⟩) 1 1)) (w.alloc (.cells (u8s q) e)) := by
  have := run_buildSlice1W (P := P) w t e q hu hi hq
  unfold execOp
  simp [ho, hx, this]
end
theorem wp_slice1W {P : Program} {o : Oper} {a : Act} {w : World} {K : Act → World → Prop} {Q : Exit → Act → World → Prop} (d : Option Tmp) (hd : o.dst = d) (t e : TypeId) (x : Operand) (ho : o.op = .buildSlice t 1 #[(0, x)]) (q : List Nat) (hx : a.eval x = .agg (u8s q)) (hu : P.underlying t = some (.slice e))
    (hi : (P.info? e).map (fun i => (i.zero, i.size, i.bytes)) = some (some (.agg (u8s (List.replicate 9 0))), 9, 9)) (hq : q.length = 9)
    (h : ∀ w', New w w' (.cells (u8s q) e (0, 0)) → K (a.put d (.slice (some ⟨w.heap.size, 0, none⟩) 1 1)) w') : Oper.wp P o a w K Q :=
  wp_exec d hd _ (exec_buildSlice1W t e x ho q hx hu hi hq) (h _ (New.alloc _ _))
theorem wp_appW {o : Oper} {a : Act} {w : World} {K : Act → World → Prop} {Q : Exit → Act → World → Prop} (d : Option Tmp) (hd : o.dst = d) (s x : Operand) (ho : o.op = .call { callee := .builtin .append, args := #[s, x], argTypes := #[108, 108] })
    {lo : Nat} (sl : Value) (qs : List (List Nat)) (q : List Nat) (hs : a.eval s = sl) (hown : OwnW w lo sl qs) (g : Nat) (hx : a.eval x = .slice (some ⟨g, 0, none⟩) 1 1) (hg : At w g (.cells (u8s q) 49 (0, 0))) (hq : q.length = 9) (hle : qs.length ≤ 1000000) (hlo : lo ≤ w.heap.size)
    (h : ∀ v' w', OwnW w' lo v' (qs ++ [q]) → w.grownBy w' sl.ownBlock → K (a.put d v') w') : Oper.wp Try.prog o a w K Q := by
  obtain ⟨i0, hi, hz0, hz1, hz2⟩ := info_parts infoW
  refine wp_append' d hd s x 108 ho lo 49 i0 (.agg (u8s (List.replicate 9 0))) 9 9 Try.underlying108 hi hz0 hz1 hz2 rfl (by decide) sl _ _ hs hown ⟨g, 0, none⟩ 1 1 (u8s q).toList hx (by rw [Array.length_toList, u8s_size, hq]) ?_ (u8s_one q) (by unfold maxLen; omega) (by omega) hlo ?_
  · intro j u hu
    rw [add_none, Nat.zero_add, hg.at_ j, ← Array.getElem?_toList]
    exact hu
  · intro v1 w8 own8 gr8 _
    refine h v1 w8 ?_ gr8
    unfold OwnW
    rw [u8s_snoc, List.length_append]
    exact own8
theorem exec_conv8f {o : Oper} {a : Act} {w : World} (x : Operand) (ho : o.op = .convert 2 5 x) (m : Int) (y : Nat) (hx : a.eval x = .int .i64 m) (hy : y < 256) (hm : m = (y : Int)) : (execOp a.eval o).run Try.prog w = .ok (.value (.int .u8 (y : Int))) w := by
  subst hm
  have hw : IntKind.u8.wrap (y : Int) = (y : Int) := by unfold IntKind.wrap; simp [IntKind.signed, IntKind.bits]; omega
  unfold execOp
  simp only [ho, hx]
  simp [go_sem, Try.underlying5, Try.underlying2, hw]
/-- The powers of v modulo p, as they are made one from the other. -/
def spw (p v : Int) : Nat → Int
  | 0 => 1
  | i + 1 => (spw p v i * v) % p
theorem exec_bs0W {o : Oper} {a : Act} {w : World} (ho : o.op = .buildSlice 108 0 #[]) : (execOp a.eval o).run Try.prog w = .ok (.value (.slice (some ⟨w.heap.size, 0, none⟩) 0 0)) (w.alloc (.cells #[] 49 (0, 0))) := by
  unfold execOp
  rw [ho]
  kernel_rfl
theorem own_bs0W {w w' : World} (h : New w w' (.cells #[] 49 (0, 0))) : OwnW w' w.heap.size (.slice (some ⟨w.heap.size, 0, none⟩) 0 0) [] :=
  ⟨by simp [u8s], .inr ⟨w.heap.size, 0, #[], rfl, Nat.le_refl _, h.at_, by simp, by simp, by simp, by simp [u8s]⟩⟩
theorem OwnW.rdN {n : Nat} {w : World} {lo : Nat} {v : Value} {qs : List (List Nat)} (h : OwnW w lo v qs) (he : qs.length = n) : ∃ A c, v = .slice A n c := by
  subst he
  rcases h.shp with ⟨rfl, h0⟩ | ⟨g, c, rfl⟩
  · exact ⟨none, 0, by rw [h0]⟩
  · exact ⟨_, _, rfl⟩
theorem pow_b16 {P E : Nat} (hP : 1 ≤ P ∧ P ≤ 4) (hE : 2 ^ P = E) : 2 ≤ E ∧ E ≤ 16 := by
  subst hE
  obtain rfl | rfl | rfl | rfl : P = 1 ∨ P = 2 ∨ P = 3 ∨ P = 4 := by omega
  all_goals simp
theorem exec_conv64 {o : Oper} {a : Act} {w : World} (x : Operand) (ho : o.op = .convert 2 121 x) (y : Nat) (hx : a.eval x = .int .i64 (y : Int)) (hy : y ≤ 63) : (execOp a.eval o).run Try.prog w = .ok (.value (.int .u64 (y : Int))) w := by
  have hw : IntKind.u64.wrap (y : Int) = (y : Int) := by unfold IntKind.wrap; simp [IntKind.signed, IntKind.bits]; omega
  unfold execOp
  simp only [ho, hx]
  simp [go_sem, Try.underlying121, Try.underlying2, hw]
theorem shift_shlN (yk : IntKind) (P E : Nat) (hP : 1 ≤ P ∧ P ≤ 4) (hE : 2 ^ P = E) : Op.shift .shl .i64 1 yk (P : Int) = pure (.int .i64 (E : Int)) := by
  subst hE
  obtain rfl | rfl | rfl | rfl : P = 1 ∨ P = 2 ∨ P = 3 ∨ P = 4 := by omega
  all_goals rfl
theorem exec_shlN {P' : Program} {o : Oper} {a : Act} {w : World} (yk : IntKind) (x y : Operand) (t t' : TypeId) (ho : o.op = .binOp .shl t x y t') (P E : Nat) (hx : a.eval x = .int .i64 1) (hy : a.eval y = .int yk (P : Int)) (hP : 1 ≤ P ∧ P ≤ 4) (hE : 2 ^ P = E) : (execOp a.eval o).run P' w = .ok (.value (.int .i64 (E : Int))) w := by
  have h9 := shift_shlN yk P E hP hE
  unfold execOp
  simp only [ho, hx, hy]
  simp only [go_sem, h9]
  rfl
theorem shift_shrN (yk : IntKind) (k D H : Nat) (hD : D ≤ 63) (hH : k / 2 ^ D = H) : Op.shift .shr .i64 (k : Int) yk (D : Int) = pure (.int .i64 (H : Int)) := by
  subst hH
  unfold Op.shift
  rw [if_neg (by omega)]
  have e : min (D : Int).toNat IntKind.i64.bits = D := by simp [IntKind.bits]; omega
  simp only [e]
  have e2 : (k : Int).fdiv (2 ^ D) = ((k / 2 ^ D : Nat) : Int) := by
    rw [Int.fdiv_eq_ediv_of_nonneg _ (by exact Int.le_of_lt (Int.pow_pos (by omega)))]
    simp
  rw [e2]
theorem exec_shrN {P' : Program} {o : Oper} {a : Act} {w : World} (yk : IntKind) (x y : Operand) (t t' : TypeId) (ho : o.op = .binOp .shr t x y t') (k D H : Nat) (hx : a.eval x = .int .i64 (k : Int)) (hy : a.eval y = .int yk (D : Int)) (hD : D ≤ 63) (hH : k / 2 ^ D = H) : (execOp a.eval o).run P' w = .ok (.value (.int .i64 (H : Int))) w := by
  have h9 := shift_shrN yk k D H hD hH
  unfold execOp
  simp only [ho, hx, hy]
  simp only [go_sem, h9]
  rfl
theorem exec_and1 {P' : Program} {o : Oper} {a : Act} {w : World} (x y : Operand) (t t' : TypeId) (ho : o.op = .binOp .and t x y t') (H B : Nat) (hx : a.eval x = .int .i64 (H : Int)) (hy : a.eval y = .int .i64 1) (hH : H < 16) (hB : H % 2 = B) : (execOp a.eval o).run P' w = .ok (.value (.int .i64 (B : Int))) w := by
  have h8 : Op.intBits .and .i64 (H : Int) 1 = pure (.int .i64 ((H % 2 : Nat) : Int)) := by
    obtain rfl | rfl | rfl | rfl | rfl | rfl | rfl | rfl | rfl | rfl | rfl | rfl | rfl | rfl | rfl | rfl : H = 0 ∨ H = 1 ∨ H = 2 ∨ H = 3 ∨ H = 4 ∨ H = 5 ∨ H = 6 ∨ H = 7 ∨ H = 8 ∨ H = 9 ∨ H = 10 ∨ H = 11 ∨ H = 12 ∨ H = 13 ∨ H = 14 ∨ H = 15 := by omega
    all_goals kernel_rfl
  subst hB
  unfold execOp
  simp only [ho, hx, hy]
  simp only [go_sem, h8]
  rfl
def fmI (P k i : Nat) : List Nat := (List.range 9).map fun j => if j < i then k / 2 ^ (P - 1 - j) % 2 else 0
def fmN (P c : Nat) : List Nat := fmI P (c + 1) P
def fms (P : Nat) : List (List Nat) := (List.range (2 ^ P - 1)).map (fmN P)
theorem fmI_len (P k i : Nat) : (fmI P k i).length = 9 := by simp [fmI]
theorem fms_len (P : Nat) : (fms P).length = 2 ^ P - 1 := by simp [fms]
theorem fmI_zero (P k : Nat) : fmI P k 0 = List.replicate 9 0 := by simp [fmI]; rfl
theorem fmI_set {P k i : Nat} : (fmI P k i).set i (k / 2 ^ (P - 1 - i) % 2) = fmI P k (i + 1) := by
  apply List.ext_getElem
  · simp [fmI]
  · intro t h1 h2
    rw [List.getElem_set]
    simp only [fmI, List.getElem_map, List.getElem_range]
    by_cases e : i = t
    · subst e
      simp
    · rw [if_neg e]
      by_cases e2 : t < i
      · rw [if_pos e2, if_pos (by omega)]
      · rw [if_neg e2, if_neg (by omega)]
theorem fmI_bytes (P k i : Nat) : Bytes 9 (fmI P k i) := ⟨fmI_len P k i, fun n hn => by
  simp only [fmI, List.mem_map] at hn
  obtain ⟨j, _, rfl⟩ := hn
  split <;> omega⟩
theorem al_impl_Form {o : Oper} {a : Act} {w : World} (ho : o.op = .alloc 49) : (execOp a.eval o).run Try.prog w = .ok (.value (.pointer (some ⟨w.heap.size, 0, none⟩))) (w.alloc (.cells (u8s (List.replicate 9 0)) 49 (0, 0))) := by
  unfold execOp
  rw [ho]
  kernel_rfl
set_option maxHeartbeats 12800000 in
theorem l10FormsOf_c (P : Nat) (hP : 1 ≤ P ∧ P ≤ 4) (w : World) :
    Calls Try.prog 74 #[.int .i64 P] w (fun e w' => ∃ v, e = .returned v ∧ OwnW w' w.heap.size v (fms P) ∧ Below w.heap.size w w') := by
  have hB := Below.refl w.heap.size w
  obtain ⟨E, hE⟩ : ∃ z9, 2 ^ P = z9 := ⟨_, rfl⟩
  have hE16 : 2 ≤ E ∧ E ≤ 16 := pow_b16 hP hE
  have HE := Lib.hid hE
  clear hE
  go_enter Try.func74, Try.ntmps74
  go_upto_region 0 with (fail)
  refine wp_region_lit ?_
  refine ls_ex (some 2) (.slice none 0 0) rfl rfl (exec_assign _ rfl (.slice none 0 0) rfl) ?_
  go_frame
  refine wpList_nil ?_
  go_upto_region 1 with (fail)
  refine wp_region_lit ?_
  refine ls_op rfl (fun K' hK' => ?_)
  have lz4 := hB.size
  refine wp_new (some 7) rfl (exec_bs0W rfl) (fun Wz1 nnz2 => ?_)
  have bz3 := nnz2.below (Below.refl _ _) (Nat.le_refl _)
  replace hB := below_after hB bz3
  have ho : OwnW Wz1 w.heap.size (.slice (some ⟨w.heap.size, 0, none⟩) 0 0) [] := (own_bs0W nnz2).mono (by have := hB.size; omega)
  refine hK' _ _ ?_
  clear hK' K' nnz2 bz3
  go_frame
  refine ls_ex (some 3) (.slice (some ⟨w.heap.size, 0, none⟩) 0 0) rfl rfl (exec_assign _ rfl (.slice (some ⟨w.heap.size, 0, none⟩) 0 0) rfl) ?_
  go_frame
  refine wpList_nil ?_
  go_upto_region 2 with (fail)
  refine wp_region_lit ?_
  refine ls_ex (some 4) (.int .i64 1) rfl rfl (exec_assign _ rfl (.int .i64 1) rfl) ?_
  go_frame
  refine wpList_nil ?_
  go_wp2_with fail
  go_loopw [3, 4] (fun s3 s4 wr => ∃ (c : Nat) (v : Value), c + 1 ≤ E ∧ s4 = .int .i64 ((c : Int) + 1) ∧ v = s3 ∧ Below w.heap.size w wr ∧ OwnW wr w.heap.size v ((List.range (c)).map (fmN P))) (fun _ s4 _ => E - (intOf s4).toNat)
  case atStart => exact ⟨0, _, by omega, rfl, rfl, hB, ho⟩
  case round =>
    clear hB ho
    obtain ⟨c, v, hc, rfl, rfl, hB, ho⟩ := hrel
    by_cases hlt : c + 1 < E
    · obtain ⟨k1, hk1⟩ : ∃ z9, c + 1 = z9 := ⟨_, rfl⟩
      have Hk1 := Lib.hid hk1
      have hk16 : k1 < 16 := by omega
      have hkk : ((c : Int) + 1) = (k1 : Int) := by omega
      clear hk1
      rw [hkk]
      go_upto_region 3 with (fail)
      refine wp_region_lit ?_
      refine ls_ex (some 8) (.int .i64 k1) rfl rfl (exec_move _ rfl (.int .i64 k1) rfl) ?_
      go_frame
      refine ls_ex (some 9) (.int .i64 P) rfl rfl (exec_move _ rfl (.int .i64 P) rfl) ?_
      go_frame
      refine ls_ex (some 10) (.int .u64 (P : Nat)) rfl rfl (exec_conv64 _ rfl P rfl (by omega)) ?_
      go_frame
      refine ls_ex (some 11) (.int .i64 (E : Nat)) rfl rfl (exec_shlN .u64 _ _ _ _ rfl P E rfl rfl hP HE.out) ?_
      go_frame
      refine ls_ex (some 12) (.bool true) rfl rfl (exec_lss _ _ _ _ rfl k1 ((E : Nat)) rfl rfl true (decide_eq_true (by omega))) ?_
      go_frame
      refine wpList_nil ?_
      go_upto_region 5 with (fail)
      refine wp_region_lit ?_
      refine ls_ex (some 15) (.agg (u8s (List.replicate 9 0))) rfl rfl (exec_build_nil 49 rfl _ (by kernel_rfl)) ?_
      go_frame
      refine ls_op rfl (fun K' hK' => ?_)
      have lz5 := hB.size
      have naz10 := ho.away_new
      refine wp_new (some 5) rfl (al_impl_Form rfl) (fun Wz6 nnz7 => ?_)
      have bz8 := nnz7.below (Below.refl _ _) (Nat.le_refl _)
      replace hB := below_after hB bz8
      replace ho := ho.below bz8
      have hz9 : At Wz6 wr.heap.size (.cells (u8s (List.replicate 9 0)) 49 (0, 0)) := nnz7.at_
      refine hK' _ _ ?_
      clear hK' K' nnz7 bz8
      go_frame
      refine ls_op rfl (fun K' hK' => ?_)
      refine wp_store_bytes 49 _ _ rfl rfl wr.heap.size rfl (List.replicate 9 0) rfl _ _ hz9 9 (by kernel_rfl) (by simp) (by simp) (fun Wz11 pz12 => ?_)
      replace hB := pz12.below hB (by omega)
      replace ho := ho.put pz12 naz10
      replace hz9 : At Wz11 wr.heap.size (.cells (u8s (List.replicate 9 0)) 49 (0, 0)) := pz12.at_
      refine hK' _ _ ?_
      clear hK' K' pz12
      refine wpList_nil ?_
      go_upto_region 6 with (fail)
      refine wp_region_lit ?_
      refine ls_ex (some 6) (.int .i64 0) rfl rfl (exec_assign _ rfl (.int .i64 0) rfl) ?_
      go_frame
      refine wpList_nil ?_
      go_wp2_with fail
      obtain ⟨we, rfl⟩ : ∃ x : World, x = wr := ⟨_, rfl⟩
      go_loopw [6] (fun s6 wr => ∃ i : Nat, i ≤ P ∧ s6 = .int .i64 i ∧ Below w.heap.size w wr ∧ At wr we.heap.size (.cells (u8s (fmI P k1 (i))) 49 (0, 0)) ∧ OwnW wr w.heap.size v ((List.range (c)).map (fmN P)) ∧ some we.heap.size ≠ v.ownBlock) (fun s6 _ => P - (intOf s6).toNat)
      case atStart => exact ⟨0, by omega, rfl, hB, by rw [fmI_zero]; exact hz9, ho, naz10⟩
      case round =>
        clear hB ho hz9
        obtain ⟨i, hi, rfl, hB, h1, ho, hna⟩ := hrel
        by_cases hlt2 : i < P
        · have hi9 : i < 9 := by omega
          obtain ⟨D, hD⟩ : ∃ z9, P - 1 - i = z9 := ⟨_, rfl⟩
          obtain ⟨D1, hD1⟩ : ∃ z9, P - 1 = z9 := ⟨_, rfl⟩
          obtain ⟨H, hH⟩ : ∃ z9, k1 / 2 ^ D = z9 := ⟨_, rfl⟩
          have hH16 : H < 16 := by rw [← hH]; exact Nat.lt_of_le_of_lt (Nat.div_le_self _ _) (by omega)
          obtain ⟨B, hBe⟩ : ∃ z9, H % 2 = z9 := ⟨_, rfl⟩
          have HSet : Hid ((fmI P k1 (i)).set i B = fmI P k1 (i + 1)) := Lib.hid (by rw [← hBe, ← hH, ← hD]; exact fmI_set)
          have HD1 : Hid (IntKind.i64.wrap ((P : Int) - 1) = (D1 : Int)) := Lib.hid (by rw [IntWalk.i64_in _ (by omega)]; omega)
          have HD : Hid (IntKind.i64.wrap ((D1 : Int) - (i : Int)) = (D : Int)) := Lib.hid (by rw [IntWalk.i64_in _ (by omega)]; omega)
          have HH := Lib.hid hH
          have HBe := Lib.hid hBe
          have hD3 : D ≤ 63 := by omega
          have hB2 : B < 256 := by omega
          clear hH hBe hD hD1
          go_upto_region 7 with (fail)
          refine wp_region_lit ?_
          refine ls_ex (some 16) (.int .i64 i) rfl rfl (exec_move _ rfl (.int .i64 i) rfl) ?_
          go_frame
          refine ls_ex (some 17) (.int .i64 P) rfl rfl (exec_move _ rfl (.int .i64 P) rfl) ?_
          go_frame
          refine ls_ex (some 18) (.bool true) rfl rfl (exec_lss _ _ _ _ rfl i P rfl rfl true (decide_eq_true (by omega))) ?_
          go_frame
          refine wpList_nil ?_
          go_upto_region 9 with (fail)
          refine wp_region_lit ?_
          refine ls_ex (some 21) (.int .i64 i) rfl rfl (exec_move _ rfl (.int .i64 i) rfl) ?_
          go_frame
          refine ls_ex (some 22) (.int .i64 k1) rfl rfl (exec_move _ rfl (.int .i64 k1) rfl) ?_
          go_frame
          refine ls_ex (some 23) (.int .i64 P) rfl rfl (exec_move _ rfl (.int .i64 P) rfl) ?_
          go_frame
          refine ls_ex (some 24) (.int .i64 D1) rfl rfl (exec_sub _ _ _ _ rfl P 1 D1 rfl rfl HD1.out) ?_
          go_frame
          refine ls_ex (some 25) (.int .i64 i) rfl rfl (exec_move _ rfl (.int .i64 i) rfl) ?_
          go_frame
          refine ls_ex (some 26) (.int .i64 D) rfl rfl (exec_sub _ _ _ _ rfl D1 i D rfl rfl HD.out) ?_
          go_frame
          refine ls_ex (some 27) (.int .u64 (D : Nat)) rfl rfl (exec_conv64 _ rfl D rfl hD3) ?_
          go_frame
          refine ls_ex (some 28) (.int .i64 (H : Nat)) rfl rfl (exec_shrN .u64 _ _ _ _ rfl k1 D H rfl rfl hD3 HH.out) ?_
          go_frame
          refine ls_ex (some 29) (.int .i64 (B : Nat)) rfl rfl (exec_and1 _ _ _ _ rfl H B rfl rfl hH16 HBe.out) ?_
          go_frame
          refine ls_ex (some 30) (.int .u8 (B : Nat)) rfl rfl (exec_conv8f _ rfl _ B rfl hB2 rfl) ?_
          go_frame
          refine ls_ex (some 31) (.pointer (some ⟨we.heap.size, 0 + i * 1, none⟩)) rfl rfl (exec_index_arr _ 5 _ _ rfl we.heap.size 0 9 i 1 rfl rfl Try.underlying49 (by kernel_rfl) hi9) ?_
          go_frame
          refine ls_op rfl (fun K' hK' => ?_)
          have lz15 := hB.size
          have lz16 := h1.lt
          refine wp_store_one 5 _ _ rfl rfl we.heap.size (0 + i * 1) rfl (.int .u8 (B : Nat)) rfl rfl rfl _ _ h1 (by kernel_rfl) (by rw [u8s_size, fmI_len]; omega) (fun Wz13 pz14 => ?_)
          replace hB := pz14.below hB (by omega)
          replace ho := ho.put pz14 hna
          replace h1 : At Wz13 we.heap.size (.cells (u8s (fmI P k1 (i + 1))) 49 (0, 0)) := by have h9 := pz14.at_; rwa [show 0 + i * 1 = i by omega, u8s_set, HSet.out] at h9
          refine hK' _ _ ?_
          clear hK' K' pz14
          refine wpList_nil ?_
          go_upto_region 8 with (fail)
          refine wp_region_lit ?_
          refine ls_ex (some 19) (.int .i64 i) rfl rfl (exec_move _ rfl (.int .i64 i) rfl) ?_
          go_frame
          refine ls_ex (some 20) (.int .i64 (i + 1)) rfl rfl (exec_add _ _ _ _ rfl i 1 (i + 1) rfl rfl (IntWalk.i64_in _ (by omega))) ?_
          go_frame
          refine ls_ex (some 6) (.int .i64 (i + 1)) rfl rfl (exec_assign _ rfl (.int .i64 (i + 1)) rfl) ?_
          go_frame
          refine wpList_nil ?_
          go_wp2_with fail
          go_roundw
          case rel => exact ⟨i + 1, by omega, by go_num, hB, h1, ho, hna⟩
          case measure => simp [intOf]; omega
        · have HF : Hid (fmI P k1 (i) = fmN P c) := Lib.hid (by rw [show i = P by omega]; unfold fmN; rw [Hk1.out])
          rw [HF.out] at h1
          obtain ⟨A9, c9, rfl⟩ := OwnW.rdN ho (n := c) (by simp)
          have HT : Hid ((List.range (c)).map (fmN P) ++ [fmN P c] = (List.range (c + 1)).map (fmN P)) := Lib.hid (by rw [List.range_succ, List.map_append]; rfl)
          go_upto_region 7 with (fail)
          refine wp_region_lit ?_
          refine ls_ex (some 16) (.int .i64 i) rfl rfl (exec_move _ rfl (.int .i64 i) rfl) ?_
          go_frame
          refine ls_ex (some 17) (.int .i64 P) rfl rfl (exec_move _ rfl (.int .i64 P) rfl) ?_
          go_frame
          refine ls_ex (some 18) (.bool false) rfl rfl (exec_lss _ _ _ _ rfl i P rfl rfl false (decide_eq_false (by omega))) ?_
          go_frame
          refine wpList_nil ?_
          go_upto_region 10 with (fail)
          refine wp_region_lit ?_
          refine ls_ex (some 32) (.slice A9 c c9) rfl rfl (exec_move _ rfl (.slice A9 c c9) rfl) ?_
          go_frame
          refine ls_ex (some 33) (.agg (u8s (fmN P c))) rfl rfl (exec_load_all 49 _ rfl we.heap.size rfl _ _ _ h1 Try.underlying49 rfl 9 (by kernel_rfl) ((u8s_size _).trans (fmI_len _ _ _))) ?_
          go_frame
          refine ls_op rfl (fun K' hK' => ?_)
          have lz17 := hB.size
          have lz18 := h1.lt
          refine wp_slice1W (some 34) rfl 108 49 _ rfl (fmN P c) rfl Try.underlying108 infoW (fmI_len _ _ _) (fun Wz19 nnz20 => ?_)
          have bz21 := nnz20.below (Below.refl _ _) (Nat.le_refl _)
          replace hB := below_after hB bz21
          replace h1 := h1.after bz21
          replace ho := ho.below bz21
          have hqz22 : At Wz19 wr.heap.size (.cells (u8s (fmN P c)) 49 (0, 0)) := nnz20.at_
          refine hK' _ _ ?_
          clear hK' K' nnz20 bz21
          go_frame
          refine ls_op rfl (fun K' hK' => ?_)
          have lz26 := hB.size
          have lz27 := h1.lt
          have lz28 := hqz22.lt
          refine wp_appW (some 35) rfl _ _ rfl (.slice A9 c c9) ((List.range (c)).map (fmN P)) (fmN P c) rfl ho wr.heap.size rfl hqz22 (fmI_len _ _ _) (by simp; omega) (by omega) (fun v8 Wz23 noz25 grz24 => ?_)
          rw [HT.out] at noz25
          obtain ⟨A8, c8, rfl⟩ := OwnW.rdN noz25 (n := c + 1) (by simp)
          replace hB := below_grownW hB grz24 ho (by omega)
          replace ho := noz25
          refine hK' _ _ ?_
          clear hK' K' grz24 h1 hqz22
          go_frame
          refine ls_ex (some 3) (.slice A8 (c + 1) c8) rfl rfl (exec_assign _ rfl (.slice A8 (c + 1) c8) rfl) ?_
          go_frame
          refine wpList_nil ?_
          go_upto_region 4 with (fail)
          refine wp_region_lit ?_
          refine ls_ex (some 13) (.int .i64 k1) rfl rfl (exec_move _ rfl (.int .i64 k1) rfl) ?_
          go_frame
          refine ls_ex (some 14) (.int .i64 (k1 + 1)) rfl rfl (exec_add _ _ _ _ rfl k1 1 (k1 + 1) rfl rfl (IntWalk.i64_in _ (by omega))) ?_
          go_frame
          refine ls_ex (some 4) (.int .i64 (k1 + 1)) rfl rfl (exec_assign _ rfl (.int .i64 (k1 + 1)) rfl) ?_
          go_frame
          refine wpList_nil ?_
          go_wp2_with fail
          go_roundw
          case rel => exact ⟨c + 1, _, by omega, by rw [← hkk]; go_num, rfl, hB, ho⟩
          case measure => simp [intOf]; omega
    · have HF : Hid ((List.range (c)).map (fmN P) = fms P) := Lib.hid (by unfold fms; rw [HE.out, show c = E - 1 by omega])
      rw [HF.out] at ho
      obtain ⟨A9, c9, rfl⟩ := OwnW.rdN ho (n := E - 1) (by rw [fms_len, HE.out])
      go_upto_region 3 with (fail)
      refine wp_region_lit ?_
      refine ls_ex (some 8) (.int .i64 ((c : Int) + 1)) rfl rfl (exec_move _ rfl (.int .i64 ((c : Int) + 1)) rfl) ?_
      go_frame
      refine ls_ex (some 9) (.int .i64 P) rfl rfl (exec_move _ rfl (.int .i64 P) rfl) ?_
      go_frame
      refine ls_ex (some 10) (.int .u64 (P : Nat)) rfl rfl (exec_conv64 _ rfl P rfl (by omega)) ?_
      go_frame
      refine ls_ex (some 11) (.int .i64 (E : Nat)) rfl rfl (exec_shlN .u64 _ _ _ _ rfl P E rfl rfl hP HE.out) ?_
      go_frame
      refine ls_ex (some 12) (.bool false) rfl rfl (exec_lss _ _ _ _ rfl (((c : Int) + 1)) ((E : Nat)) rfl rfl false (decide_eq_false (by omega))) ?_
      go_frame
      refine wpList_nil ?_
      go_upto_region 11 with (fail)
      refine wp_region_lit ?_
      refine ls_ex (some 36) (.slice A9 (E - 1) c9) rfl rfl (exec_move _ rfl (.slice A9 (E - 1) c9) rfl) ?_
      go_frame
      refine ls_ex (some 2) (.slice A9 (E - 1) c9) rfl rfl (exec_assign _ rfl (.slice A9 (E - 1) c9) rfl) ?_
      go_frame
      refine wpList_nil ?_
      go_wp2_with fail
      go_ret
      exact ⟨_, rfl, ho, hB⟩
set_option maxHeartbeats 12800000 in
theorem smallForms_c (P : Nat) (hP : 1 ≤ P ∧ P ≤ 4) (w : World) :
    Calls Try.prog 76 #[.int .i64 P] w (fun e w' => ∃ v, e = .returned v ∧ OwnW w' w.heap.size v (fms P) ∧ Below w.heap.size w w') := by
  have hB := Below.refl w.heap.size w
  obtain ⟨E, hE⟩ : ∃ z9, 2 ^ P = z9 := ⟨_, rfl⟩
  have hE16 : 2 ≤ E ∧ E ≤ 16 := pow_b16 hP hE
  have HE := Lib.hid hE
  clear hE
  go_enter Try.func76, Try.ntmps76
  go_upto_region 0 with (fail)
  refine wp_region_lit ?_
  refine ls_ex (some 2) (.slice none 0 0) rfl rfl (exec_assign _ rfl (.slice none 0 0) rfl) ?_
  go_frame
  refine wpList_nil ?_
  go_upto_region 1 with (fail)
  refine wp_region_lit ?_
  refine ls_ex (some 3) (.slice none 0 0) rfl rfl (exec_assign _ rfl (.slice none 0 0) rfl) ?_
  go_frame
  refine wpList_nil ?_
  go_upto_region 2 with (fail)
  refine wp_region_lit ?_
  refine ls_ex (some 4) (.int .i64 1) rfl rfl (exec_assign _ rfl (.int .i64 1) rfl) ?_
  go_frame
  refine wpList_nil ?_
  go_wp2_with fail
  go_loopw [3, 4] (fun s3 s4 wr => ∃ (c : Nat) (v : Value), c + 1 ≤ E ∧ s4 = .int .i64 ((c : Int) + 1) ∧ v = s3 ∧ Below w.heap.size w wr ∧ OwnW wr w.heap.size v ((List.range (c)).map (fmN P))) (fun _ s4 _ => E - (intOf s4).toNat)
  case atStart => exact ⟨0, _, by omega, rfl, rfl, hB, OwnW.nil _ _⟩
  case round =>
    clear hB
    obtain ⟨c, v, hc, rfl, rfl, hB, ho⟩ := hrel
    by_cases hlt : c + 1 < E
    · obtain ⟨k1, hk1⟩ : ∃ z9, c + 1 = z9 := ⟨_, rfl⟩
      have Hk1 := Lib.hid hk1
      have hk16 : k1 < 16 := by omega
      have hkk : ((c : Int) + 1) = (k1 : Int) := by omega
      clear hk1
      rw [hkk]
      go_upto_region 3 with (fail)
      refine wp_region_lit ?_
      refine ls_ex (some 7) (.int .i64 k1) rfl rfl (exec_move _ rfl (.int .i64 k1) rfl) ?_
      go_frame
      refine ls_ex (some 8) (.int .i64 P) rfl rfl (exec_move _ rfl (.int .i64 P) rfl) ?_
      go_frame
      refine ls_ex (some 9) (.int .i64 (E : Nat)) rfl rfl (exec_shlN .i64 _ _ _ _ rfl P E rfl rfl hP HE.out) ?_
      go_frame
      refine ls_ex (some 10) (.bool true) rfl rfl (exec_lss _ _ _ _ rfl k1 ((E : Nat)) rfl rfl true (decide_eq_true (by omega))) ?_
      go_frame
      refine wpList_nil ?_
      go_upto_region 5 with (fail)
      refine wp_region_lit ?_
      refine ls_op rfl (fun K' hK' => ?_)
      have lz1 := hB.size
      have naz6 := ho.away_new
      refine wp_new (some 5) rfl (al_impl_Form rfl) (fun Wz2 nnz3 => ?_)
      have bz4 := nnz3.below (Below.refl _ _) (Nat.le_refl _)
      replace hB := below_after hB bz4
      replace ho := ho.below bz4
      have hz5 : At Wz2 wr.heap.size (.cells (u8s (List.replicate 9 0)) 49 (0, 0)) := nnz3.at_
      refine hK' _ _ ?_
      clear hK' K' nnz3 bz4
      go_frame
      refine wpList_nil ?_
      go_upto_region 6 with (fail)
      refine wp_region_lit ?_
      refine ls_ex (some 13) (.int .i64 P) rfl rfl (exec_move _ rfl (.int .i64 P) rfl) ?_
      go_frame
      refine ls_ex (some 14) (.int .i64 0) rfl rfl (exec_move _ rfl (.int .i64 0) rfl) ?_
      go_frame
      refine wpList_nil ?_
      go_wp2_with fail
      obtain ⟨we, rfl⟩ : ∃ x : World, x = wr := ⟨_, rfl⟩
      go_loopw [14] (fun s14 wr => ∃ i : Nat, i ≤ P ∧ s14 = .int .i64 i ∧ Below w.heap.size w wr ∧ At wr we.heap.size (.cells (u8s (fmI P k1 (i))) 49 (0, 0)) ∧ OwnW wr w.heap.size v ((List.range (c)).map (fmN P)) ∧ some we.heap.size ≠ v.ownBlock) (fun s14 _ => P - (intOf s14).toNat)
      case atStart => exact ⟨0, by omega, rfl, hB, by rw [fmI_zero]; exact hz5, ho, naz6⟩
      case round =>
        clear hB ho hz5
        obtain ⟨i, hi, rfl, hB, h1, ho, hna⟩ := hrel
        by_cases hlt2 : i < P
        · have hi9 : i < 9 := by omega
          obtain ⟨D, hD⟩ : ∃ z9, P - 1 - i = z9 := ⟨_, rfl⟩
          obtain ⟨D1, hD1⟩ : ∃ z9, P - 1 = z9 := ⟨_, rfl⟩
          obtain ⟨H, hH⟩ : ∃ z9, k1 / 2 ^ D = z9 := ⟨_, rfl⟩
          have hH16 : H < 16 := by rw [← hH]; exact Nat.lt_of_le_of_lt (Nat.div_le_self _ _) (by omega)
          obtain ⟨B, hBe⟩ : ∃ z9, H % 2 = z9 := ⟨_, rfl⟩
          have HSet : Hid ((fmI P k1 (i)).set i B = fmI P k1 (i + 1)) := Lib.hid (by rw [← hBe, ← hH, ← hD]; exact fmI_set)
          have HD1 : Hid (IntKind.i64.wrap ((P : Int) - 1) = (D1 : Int)) := Lib.hid (by rw [IntWalk.i64_in _ (by omega)]; omega)
          have HD : Hid (IntKind.i64.wrap ((D1 : Int) - (i : Int)) = (D : Int)) := Lib.hid (by rw [IntWalk.i64_in _ (by omega)]; omega)
          have HH := Lib.hid hH
          have HBe := Lib.hid hBe
          have hD3 : D ≤ 63 := by omega
          have hB2 : B < 256 := by omega
          clear hH hBe hD hD1
          go_upto_region 7 with (fail)
          refine wp_region_lit ?_
          refine ls_ex (some 15) (.bool true) rfl rfl (exec_lss _ _ _ _ rfl i P rfl rfl true (decide_eq_true (by omega))) ?_
          go_frame
          refine wpList_nil ?_
          go_upto_region 8 with (fail)
          refine wp_region_lit ?_
          refine ls_ex (some 16) (.int .i64 i) rfl rfl (exec_move _ rfl (.int .i64 i) rfl) ?_
          go_frame
          refine ls_ex (some 6) (.int .i64 i) rfl rfl (exec_assign _ rfl (.int .i64 i) rfl) ?_
          go_frame
          refine wpList_nil ?_
          go_upto_region 9 with (fail)
          refine wp_region_lit ?_
          refine ls_ex (some 17) (.int .i64 i) rfl rfl (exec_move _ rfl (.int .i64 i) rfl) ?_
          go_frame
          refine ls_ex (some 18) (.int .i64 k1) rfl rfl (exec_move _ rfl (.int .i64 k1) rfl) ?_
          go_frame
          refine ls_ex (some 19) (.int .i64 P) rfl rfl (exec_move _ rfl (.int .i64 P) rfl) ?_
          go_frame
          refine ls_ex (some 20) (.int .i64 D1) rfl rfl (exec_sub _ _ _ _ rfl P 1 D1 rfl rfl HD1.out) ?_
          go_frame
          refine ls_ex (some 21) (.int .i64 i) rfl rfl (exec_move _ rfl (.int .i64 i) rfl) ?_
          go_frame
          refine ls_ex (some 22) (.int .i64 D) rfl rfl (exec_sub _ _ _ _ rfl D1 i D rfl rfl HD.out) ?_
          go_frame
          refine ls_ex (some 23) (.int .i64 (H : Nat)) rfl rfl (exec_shrN .i64 _ _ _ _ rfl k1 D H rfl rfl hD3 HH.out) ?_
          go_frame
          refine ls_ex (some 24) (.int .i64 (B : Nat)) rfl rfl (exec_and1 _ _ _ _ rfl H B rfl rfl hH16 HBe.out) ?_
          go_frame
          refine ls_ex (some 25) (.int .u8 (B : Nat)) rfl rfl (exec_conv8f _ rfl _ B rfl hB2 rfl) ?_
          go_frame
          refine ls_ex (some 26) (.pointer (some ⟨we.heap.size, 0 + i * 1, none⟩)) rfl rfl (exec_index_arr _ 5 _ _ rfl we.heap.size 0 9 i 1 rfl rfl Try.underlying49 (by kernel_rfl) hi9) ?_
          go_frame
          refine ls_op rfl (fun K' hK' => ?_)
          have lz9 := hB.size
          have lz10 := h1.lt
          refine wp_store_one 5 _ _ rfl rfl we.heap.size (0 + i * 1) rfl (.int .u8 (B : Nat)) rfl rfl rfl _ _ h1 (by kernel_rfl) (by rw [u8s_size, fmI_len]; omega) (fun Wz7 pz8 => ?_)
          replace hB := pz8.below hB (by omega)
          replace ho := ho.put pz8 hna
          replace h1 : At Wz7 we.heap.size (.cells (u8s (fmI P k1 (i + 1))) 49 (0, 0)) := by have h9 := pz8.at_; rwa [show 0 + i * 1 = i by omega, u8s_set, HSet.out] at h9
          refine hK' _ _ ?_
          clear hK' K' pz8
          refine wpList_nil ?_
          go_upto_region 10 with (fail)
          refine wp_region_lit ?_
          refine ls_ex (some 27) (.int .i64 (i + 1)) rfl rfl (exec_add _ _ _ _ rfl i 1 (i + 1) rfl rfl (IntWalk.i64_in _ (by omega))) ?_
          go_frame
          refine ls_ex (some 14) (.int .i64 (i + 1)) rfl rfl (exec_move _ rfl (.int .i64 (i + 1)) rfl) ?_
          go_frame
          refine wpList_nil ?_
          go_wp2_with fail
          go_roundw
          case rel => exact ⟨i + 1, by omega, by go_num, hB, h1, ho, hna⟩
          case measure => simp [intOf]; omega
        · have HF : Hid (fmI P k1 (i) = fmN P c) := Lib.hid (by rw [show i = P by omega]; unfold fmN; rw [Hk1.out])
          rw [HF.out] at h1
          obtain ⟨A9, c9, rfl⟩ := OwnW.rdN ho (n := c) (by simp)
          have HT : Hid ((List.range (c)).map (fmN P) ++ [fmN P c] = (List.range (c + 1)).map (fmN P)) := Lib.hid (by rw [List.range_succ, List.map_append]; rfl)
          go_upto_region 7 with (fail)
          refine wp_region_lit ?_
          refine ls_ex (some 15) (.bool false) rfl rfl (exec_lss _ _ _ _ rfl i P rfl rfl false (decide_eq_false (by omega))) ?_
          go_frame
          refine wpList_nil ?_
          go_upto_region 11 with (fail)
          refine wp_region_lit ?_
          refine ls_ex (some 28) (.slice A9 c c9) rfl rfl (exec_move _ rfl (.slice A9 c c9) rfl) ?_
          go_frame
          refine ls_ex (some 29) (.agg (u8s (fmN P c))) rfl rfl (exec_load_all 49 _ rfl we.heap.size rfl _ _ _ h1 Try.underlying49 rfl 9 (by kernel_rfl) ((u8s_size _).trans (fmI_len _ _ _))) ?_
          go_frame
          refine ls_op rfl (fun K' hK' => ?_)
          have lz11 := hB.size
          have lz12 := h1.lt
          refine wp_slice1W (some 30) rfl 108 49 _ rfl (fmN P c) rfl Try.underlying108 infoW (fmI_len _ _ _) (fun Wz13 nnz14 => ?_)
          have bz15 := nnz14.below (Below.refl _ _) (Nat.le_refl _)
          replace hB := below_after hB bz15
          replace h1 := h1.after bz15
          replace ho := ho.below bz15
          have hqz16 : At Wz13 wr.heap.size (.cells (u8s (fmN P c)) 49 (0, 0)) := nnz14.at_
          refine hK' _ _ ?_
          clear hK' K' nnz14 bz15
          go_frame
          refine ls_op rfl (fun K' hK' => ?_)
          have lz20 := hB.size
          have lz21 := h1.lt
          have lz22 := hqz16.lt
          refine wp_appW (some 31) rfl _ _ rfl (.slice A9 c c9) ((List.range (c)).map (fmN P)) (fmN P c) rfl ho wr.heap.size rfl hqz16 (fmI_len _ _ _) (by simp; omega) (by omega) (fun v8 Wz17 noz19 grz18 => ?_)
          rw [HT.out] at noz19
          obtain ⟨A8, c8, rfl⟩ := OwnW.rdN noz19 (n := c + 1) (by simp)
          replace hB := below_grownW hB grz18 ho (by omega)
          replace ho := noz19
          refine hK' _ _ ?_
          clear hK' K' grz18 h1 hqz16
          go_frame
          refine ls_ex (some 3) (.slice A8 (c + 1) c8) rfl rfl (exec_assign _ rfl (.slice A8 (c + 1) c8) rfl) ?_
          go_frame
          refine wpList_nil ?_
          go_upto_region 4 with (fail)
          refine wp_region_lit ?_
          refine ls_ex (some 11) (.int .i64 k1) rfl rfl (exec_move _ rfl (.int .i64 k1) rfl) ?_
          go_frame
          refine ls_ex (some 12) (.int .i64 (k1 + 1)) rfl rfl (exec_add _ _ _ _ rfl k1 1 (k1 + 1) rfl rfl (IntWalk.i64_in _ (by omega))) ?_
          go_frame
          refine ls_ex (some 4) (.int .i64 (k1 + 1)) rfl rfl (exec_assign _ rfl (.int .i64 (k1 + 1)) rfl) ?_
          go_frame
          refine wpList_nil ?_
          go_wp2_with fail
          go_roundw
          case rel => exact ⟨c + 1, _, by omega, by rw [← hkk]; go_num, rfl, hB, ho⟩
          case measure => simp [intOf]; omega
    · have HF : Hid ((List.range (c)).map (fmN P) = fms P) := Lib.hid (by unfold fms; rw [HE.out, show c = E - 1 by omega])
      rw [HF.out] at ho
      obtain ⟨A9, c9, rfl⟩ := OwnW.rdN ho (n := E - 1) (by rw [fms_len, HE.out])
      go_upto_region 3 with (fail)
      refine wp_region_lit ?_
      refine ls_ex (some 7) (.int .i64 ((c : Int) + 1)) rfl rfl (exec_move _ rfl (.int .i64 ((c : Int) + 1)) rfl) ?_
      go_frame
      refine ls_ex (some 8) (.int .i64 P) rfl rfl (exec_move _ rfl (.int .i64 P) rfl) ?_
      go_frame
      refine ls_ex (some 9) (.int .i64 (E : Nat)) rfl rfl (exec_shlN .i64 _ _ _ _ rfl P E rfl rfl hP HE.out) ?_
      go_frame
      refine ls_ex (some 10) (.bool false) rfl rfl (exec_lss _ _ _ _ rfl (((c : Int) + 1)) ((E : Nat)) rfl rfl false (decide_eq_false (by omega))) ?_
      go_frame
      refine wpList_nil ?_
      go_upto_region 12 with (fail)
      refine wp_region_lit ?_
      refine ls_ex (some 32) (.slice A9 (E - 1) c9) rfl rfl (exec_move _ rfl (.slice A9 (E - 1) c9) rfl) ?_
      go_frame
      refine ls_ex (some 2) (.slice A9 (E - 1) c9) rfl rfl (exec_assign _ rfl (.slice A9 (E - 1) c9) rfl) ?_
      go_frame
      refine wpList_nil ?_
      go_wp2_with fail
      go_ret
      exact ⟨_, rfl, ho, hB⟩
end Go.Proofs.Ytppenoincihoeaa
