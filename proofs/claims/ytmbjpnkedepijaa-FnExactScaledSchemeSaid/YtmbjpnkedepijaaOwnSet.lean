/-
  A store of one product into a slice of products of the call's own; slices.Clone at []impl.Product.
-/
import Derived.Test.YtmbjpnkedepijaaNrm0
import Derived.Lib.SliceRun
namespace Go.Proofs.Ytmbjpnkedepijaa
open Go.RowKit
set_option maxRecDepth 100000
theorem flat_set {r : List Nat} (hr : r.length = 27) : ∀ {qs : List (List Nat)} {j : Nat}, (∀ q ∈ qs, q.length = 27) → j < qs.length → (qs.set j r).flatten = over qs.flatten (j * 27) r
  | [], j, _, hj => by simp at hj
  | q :: qs, 0, hq, _ => by
    have h0 : q.length = 27 := hq q (by simp)
    simp [over, hr, ← h0]
  | q :: qs, j + 1, hq, hj => by
    have h0 : q.length = 27 := hq q (by simp)
    have ih := flat_set hr (qs := qs) (j := j) (fun x hx => hq x (by simp [hx])) (by simpa using hj)
    rw [List.set_cons_succ, List.flatten_cons, List.flatten_cons, ih]
    unfold over
    have e1 : (j + 1) * 27 = q.length + j * 27 := by omega
    have e2 : (j + 1) * 27 + r.length = q.length + (j * 27 + r.length) := by omega
    rw [e2, e1, List.take_length_add_append, List.drop_length_add_append, List.append_assoc, List.append_assoc]
    simp
theorem take_splice {X V : List Value} {off n : Nat} (h : off + V.length ≤ n) (hn : n ≤ X.length) : (X.take off ++ V ++ X.drop (off + V.length)).take n = (X.take n).take off ++ V ++ (X.take n).drop (off + V.length) := by
  have h1 : (X.take off).length = off := by simp; omega
  rw [List.append_assoc, List.take_append, List.take_append, h1, List.take_of_length_le (show (X.take off).length ≤ n by omega), List.take_of_length_le (show V.length ≤ n - off by omega)]
  rw [List.take_take, show min off n = off by omega, List.append_assoc, List.drop_take, show n - off - V.length = n - (off + V.length) by omega]
/-- What a store into block 'g' leaves of the others. -/
structure PutO (w w' : World) (g : Nat) : Prop where
  other : ∀ {k : Nat} {o' : Obj}, At w k o' → k ≠ g → At w' k o'
  size : w'.heap.size = w.heap.size
  below : ∀ {B : Nat} {w0 : World}, Below B w0 w → B ≤ g → Below B w0 w'
  grown : w.grownBy w' (some g)
theorem run_store_own {P : Program} (w : World) {lo g c n : Nat} {qs : List (List Nat)} (h : Own w lo (.slice (some ⟨g, 0, none⟩) n c) qs) (hq : ∀ q ∈ qs, q.length = 27) (ty : TypeId) (hi : (P.info? ty).map (·.size) = some 27) {j : Nat} (hj : j < qs.length) (r : List Nat) (hr : r.length = 27) :
    ∃ w', (storeVar ty ⟨g, j * 27, none⟩ (.agg (u8s r))).run P w = .ok () w' ∧ Own w' lo (.slice (some ⟨g, 0, none⟩) n c) (qs.set j r) ∧ PutO w w' g ∧ lo ≤ g := by
  rcases h.2 with ⟨e, _⟩ | ⟨g', cap, cur, e, hb, hgg, hle, hcap, hsz, ht⟩
  · simp at e
  · simp only [Value.slice.injEq, Option.some.injEq, Addr.mk.injEq] at e
    obtain ⟨⟨rfl, _, _⟩, rfl, rfl⟩ := e
    have hj2 : (j + 1) * 27 ≤ qs.length * 27 := Nat.mul_le_mul_right _ hj
    have hc2 : qs.length * 27 ≤ c * 27 := Nat.mul_le_mul_right _ hle
    have hs := run_storeVar_part (P := P) w g (j * 27) 45 ty cur (u8s r) hgg (by rw [u8s_size, hr]; exact hi) (by rw [u8s_size, hr, hsz]; omega) (u8s_one r)
    refine ⟨_, hs, ⟨?_, .inr ⟨g, c, _, ?_, hb, setRow_heap _ _ _ _ _ _ hgg, ?_, hcap, ?_, ?_⟩⟩, ⟨fun h' hk => (setRow_other _ _ _ _ hk).trans h', setRow_size _ _ _, fun hb hB => below_setRow' hb hB _, ⟨rfl, rfl, rfl, by rw [setRow_size]; exact Nat.le_refl _, fun k _ hne => setRow_other _ _ _ _ (fun e => hne (by rw [e]))⟩⟩, hb⟩
    · rw [Array.length_toList, u8s_size, flat_len (by
        intro q hm
        rcases List.mem_or_eq_of_mem_set hm with hm | rfl
        · exact hq q hm
        · exact hr)]
    · simp
    · simpa using hle
    · rw [splice_size (by rw [u8s_size, hr, hsz]; omega)]; exact hsz
    · have hv : (u8s r).toList.length = 27 := by rw [Array.length_toList, u8s_size, hr]
      have e1 : (splice cur (j * 27) (u8s r)).toList = cur.toList.take (j * 27) ++ (u8s r).toList ++ cur.toList.drop (j * 27 + (u8s r).toList.length) := by simp [splice]
      rw [List.length_set, e1, take_splice (n := qs.length * 27) (by rw [hv]; omega) (by have e9 : cur.toList.length = cur.size := Array.length_toList; omega), ht, hv, flat_set hr hq hj]
      simp [over, u8s, hr]
section
variable {P : Program} {ops : Array Oper} {rest : List Oper} {o : Oper} {a : Act} {w : World} {Q : Exit → Act → World → Prop}
theorem wp_store_own {K : Act → World → Prop} (ty : TypeId) (x y : Operand) (ho : o.op = .store ty x y) (hdst : o.dst = none) (g j : Nat) (hx : a.eval x = .pointer (some ⟨g, j * 27, none⟩)) (r : List Nat) (hy : a.eval y = .agg (u8s r))
    {lo c n : Nat} {qs : List (List Nat)} (h : Own w lo (.slice (some ⟨g, 0, none⟩) n c) qs) (hq : ∀ q ∈ qs, q.length = 27) (hi : (P.info? ty).map (·.size) = some 27) (hj : j < qs.length) (hr : r.length = 27)
    (hk : ∀ w', Own w' lo (.slice (some ⟨g, 0, none⟩) n c) (qs.set j r) → PutO w w' g → lo ≤ g → K a w') : Oper.wp P o a w K Q := by
  obtain ⟨w', hs, h1, h2, h3⟩ := run_store_own (P := P) w h hq ty hi hj r hr
  unfold Oper.wp execOp
  simp only [ho, hx, hy, Instr.storeAt, Instr.sureAddr, Sem.run_bind, Sem.run_pure, Result.andThen_ok, hs]
  simp only [Oper.upon, hdst, Act.put]
  exact hk _ h1 h2 h3
theorem wpList_store_own (hgd : o.guard = none) (ty : TypeId) (x y : Operand) (ho : o.op = .store ty x y) (hdst : o.dst = none) (g j : Nat) (hx : a.eval x = .pointer (some ⟨g, j * 27, none⟩)) (r : List Nat) (hy : a.eval y = .agg (u8s r))
    {lo c n : Nat} {qs : List (List Nat)} (h : Own w lo (.slice (some ⟨g, 0, none⟩) n c) qs) (hq : ∀ q ∈ qs, q.length = 27) (hi : (P.info? ty).map (·.size) = some 27) (hj : j < qs.length) (hr : r.length = 27)
    (hk : ∀ w', Own w' lo (.slice (some ⟨g, 0, none⟩) n c) (qs.set j r) → PutO w w' g → lo ≤ g → wpList P ops Q rest a w') : wpList P ops Q (o :: rest) a w :=
  wpList_plain hgd fun _ hK => wp_store_own ty x y ho hdst g j hx r hy h hq hi hj hr fun w' h1 h2 h3 => hK _ _ (hk w' h1 h2 h3)
end
theorem Own.blk {w : World} {lo n c : Nat} {A : Option Addr} {qs : List (List Nat)} (h : Own w lo (.slice A n c) qs) (hn : 0 < qs.length) : ∃ g, A = some ⟨g, 0, none⟩ ∧ lo ≤ g := by
  rcases h.2 with ⟨_, h0⟩ | ⟨g, cap, cur, e, hb, _⟩
  · omega
  · simp only [Value.slice.injEq] at e
    exact ⟨g, e.1, hb⟩
theorem exec_eqnil {P : Program} {o : Oper} {a : Act} {w : World} (t rt e : TypeId) (x y : Operand) (ho : o.op = .binOp .eql t x y rt) (hu : P.underlying t = some (.slice e)) (A : Option Addr) (n c : Nat) (hx : a.eval x = .slice A n c) (hy : a.eval y = .slice none 0 0) :
    (execOp a.eval o).run P w = .ok (.value (.bool A.isNone)) w := by
  have h := Lib.run_eql_slice_nil (P := P) w t e A n c 0 0 hu
  unfold execOp
  simp only [ho, hx, hy]
  simp [eqGuard, h]
theorem wpList_append_rd {ops : Array Oper} {rest : List Oper} {o : Oper} {a : Act} {w : World} {Q : Exit → Act → World → Prop} (hgd : o.guard = none) (d : Option Tmp) (hd : o.dst = d) (s x : Operand) (ho : o.op = .call { callee := .builtin .append, args := #[s, x], argTypes := #[26, 26] })
    {lo : Nat} (v : Value) (qs rs : List (List Nat)) (hs : a.eval s = v) (hown : Own w lo v qs) (A : Option Addr) (c : Nat) (hx : a.eval x = .slice A rs.length c) (hr : Rd w A rs) (hc : A = none → c = 0) (hle : qs.length + rs.length ≤ 1000000) (hlo : lo ≤ w.heap.size)
    (h : ∀ v' w', Own w' lo v' (qs ++ rs) → w.grownBy w' v.ownBlock → wpList Try.prog ops Q rest (a.put d v') w') : wpList Try.prog ops Q (o :: rest) a w :=
  wpList_plain hgd fun _ hK => wp_append_rd d hd s x ho v qs rs hs hown A c hx hr hc hle hlo fun v' w' h1 h2 => hK _ _ (h v' w' h1 h2)
set_option maxHeartbeats 800000 in
theorem clone_c (g c : Nat) (qs : List (List Nat)) (w : World) (hr : Rd w (some ⟨g, 0, none⟩) qs) (hn : qs.length ≤ 1000) :
    Calls Try.prog 38 #[.slice (some ⟨g, 0, none⟩) qs.length c] w fun e w' => ∃ v, e = .returned v ∧ Own w' w.heap.size v qs ∧ Below w.heap.size w w' := by
  go_enter Try.func38, Try.ntmps38
  have o0 : Own (w.alloc (.cells #[] 45 (0, 0))) w.heap.size (.slice (some ⟨w.heap.size, 0, none⟩) 0 0) [] := ⟨by simp [u8s], .inr ⟨w.heap.size, 0, #[], rfl, Nat.le_refl _, al1_0 _ _, by simp, by simp, by simp, by simp [u8s]⟩⟩
  have b0 := below1 w (.cells #[] 45 (0, 0))
  have hr0 := hr.keep b0
  go_wp2_with (first | (refine wpList_of_exec rfl (exec_eqnil 26 26 45 _ _ rfl Try.underlying26 (some ⟨g, 0, none⟩) qs.length c rfl rfl) ?_) | (at_builtin; refine wpList_append_rd rfl _ rfl _ _ rfl (.slice (some ⟨w.heap.size, 0, none⟩) 0 0) [] qs rfl o0 (some ⟨g, 0, none⟩) c rfl hr0 (by simp) (by simp; omega) b0.size ?_; intro v1 w1 ho1 gr1))
  go_ret
  rw [List.nil_append] at ho1
  exact ⟨v1, rfl, ho1, below_grown b0 gr1 o0 (Nat.le_refl _)⟩
end Go.Proofs.Ytmbjpnkedepijaa
