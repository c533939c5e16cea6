/-
  Regions that draw their order, walked by hand: what yields the same in every world that keeps S is taken first; what comes up alone is run by its own law. No function of the program is named here.
  A region that draws its order, by an invariant: each operation is run once, from any state in which those that it waits for have come up; no order is branched over. No function of the program is named here.
  A region that draws its order and whose last operation waits for all others: what the last one writes may be read by the others. The condition on worlds need not hold behind the last. No function of the program is named here.
  Regions that draw their order, walked by hand, with two conditions on worlds: 'S' holds behind each operation; 'S2' holds until one of a list comes up, each of which waits for whatever is taken early by 'S2'. No function of the program is named here.
-/
import Derived.Test.YtebmkmkhfhmfbaaBase
import Derived.Deep.RegionHeld3
namespace Go.Proofs.Ytebmkmkhfhmfbaa
open Go.RowKit
section
variable {P : Program} {ops : Array Oper} {Q : Exit → Act → World → Prop} {md : Region.Mode} {S : World → Prop}
theorem held_yield (i : Nat) {oi : Oper} (d : Option Tmp) (v : Value) {fuel : Nat} {listed : Array Bool} {a : Act} {w : World} (hi : ops[i]? = some oi)
    (hs : Region.noSelect ops = true) (hf : Region.free md ops listed i = true) (hr : (Region.ready md ops listed).contains i = true)
    (hQ : ∀ c a w, Q (.panic c) (a.put oi.dst v) w → Q (.panic c) a w) (hg : oi.guard = none) (hd : oi.dst = d) (hS : S w) (he : ∀ w', S w' → (execOp a.eval oi).run P w' = .ok (.value v) w')
    (h : wpAnyH P md ops Q S fuel (listed.setIfInBounds i true) (a.put d v) w) : wpAnyH P md ops Q S (fuel + 1) listed a w :=
  wpAnyH_take hi hs hf hr hQ (.inl ⟨by simp [Region.wanted, hg], he⟩) hS (by rw [hd]; exact h)
theorem held_oper (i : Nat) {oi : Oper} {fuel : Nat} {listed : Array Bool} {a : Act} {w : World} (hr : Region.ready md ops listed = [i]) (hi : ops[i]? = some oi) (hg : oi.guard = none)
    (h : ∀ K : Act → World → Prop, (∀ a' w', S w' → wpAnyH P md ops Q S fuel (listed.setIfInBounds i true) a' w' → K a' w') → Oper.wp P oi a w K Q) : wpAnyH P md ops Q S (fuel + 1) listed a w :=
  wpAnyH_all hr (by simp) fun j hj => by
    obtain rfl : j = i := by simpa using hj
    refine wpOp_step hi fun K hK => ?_
    rw [if_pos (by simp [Region.wanted, hg])]
    exact h K fun a' w' hS hW => hK a' w' ⟨hS, hW⟩
/-- One of those that may come up, as an operation. -/
theorem held_one {i : Nat} {oi : Oper} {fuel : Nat} {listed : Array Bool} {a : Act} {w : World} (hi : ops[i]? = some oi) (hg : oi.guard = none)
    (h : ∀ K : Act → World → Prop, (∀ a' w', S w' → wpAnyH P md ops Q S fuel (listed.setIfInBounds i true) a' w' → K a' w') → Oper.wp P oi a w K Q) :
    wpOp P ops Q i (fun a' w' => S w' ∧ wpAnyH P md ops Q S fuel (listed.setIfInBounds i true) a' w') a w := by
  refine wpOp_step hi fun K hK => ?_
  rw [if_pos (by simp [Region.wanted, hg])]
  exact h K fun a' w' hS hW => hK a' w' ⟨hS, hW⟩
theorem held_two (i j : Nat) {oi oj : Oper} {fuel : Nat} {listed : Array Bool} {a : Act} {w : World} (hr : Region.ready md ops listed = [i, j]) (hi : ops[i]? = some oi) (hj : ops[j]? = some oj) (hg : oi.guard = none) (hg' : oj.guard = none)
    (h : ∀ K : Act → World → Prop, (∀ a' w', S w' → wpAnyH P md ops Q S fuel (listed.setIfInBounds i true) a' w' → K a' w') → Oper.wp P oi a w K Q)
    (h' : ∀ K : Act → World → Prop, (∀ a' w', S w' → wpAnyH P md ops Q S fuel (listed.setIfInBounds j true) a' w' → K a' w') → Oper.wp P oj a w K Q) : wpAnyH P md ops Q S (fuel + 1) listed a w :=
  wpAnyH_all hr (by simp) fun x hx => by
    have hx' : x = i ∨ x = j := by simpa using hx
    rcases hx' with rfl | rfl
    · exact held_one hi hg h
    · exact held_one hj hg' h'
theorem held_three (i j k : Nat) {oi oj ok : Oper} {fuel : Nat} {listed : Array Bool} {a : Act} {w : World} (hr : Region.ready md ops listed = [i, j, k]) (hi : ops[i]? = some oi) (hj : ops[j]? = some oj) (hk : ops[k]? = some ok)
    (hg : oi.guard = none) (hg' : oj.guard = none) (hg'' : ok.guard = none)
    (h : ∀ K : Act → World → Prop, (∀ a' w', S w' → wpAnyH P md ops Q S fuel (listed.setIfInBounds i true) a' w' → K a' w') → Oper.wp P oi a w K Q)
    (h' : ∀ K : Act → World → Prop, (∀ a' w', S w' → wpAnyH P md ops Q S fuel (listed.setIfInBounds j true) a' w' → K a' w') → Oper.wp P oj a w K Q)
    (h'' : ∀ K : Act → World → Prop, (∀ a' w', S w' → wpAnyH P md ops Q S fuel (listed.setIfInBounds k true) a' w' → K a' w') → Oper.wp P ok a w K Q) : wpAnyH P md ops Q S (fuel + 1) listed a w :=
  wpAnyH_all hr (by simp) fun x hx => by
    have hx' : x = i ∨ x = j ∨ x = k := by simpa using hx
    rcases hx' with rfl | rfl | rfl
    · exact held_one hi hg h
    · exact held_one hj hg' h'
    · exact held_one hk hg'' h''
theorem held_exec (i : Nat) {oi : Oper} (d : Option Tmp) (v : Value) {fuel : Nat} {listed : Array Bool} {a : Act} {w w' : World} (hr : Region.ready md ops listed = [i]) (hi : ops[i]? = some oi) (hg : oi.guard = none) (hd : oi.dst = d)
    (he : (execOp a.eval oi).run P w = .ok (.value v) w') (hS : S w') (h : wpAnyH P md ops Q S fuel (listed.setIfInBounds i true) (a.put d v) w') : wpAnyH P md ops Q S (fuel + 1) listed a w :=
  held_oper i hr hi hg fun K hK => by
    unfold Oper.wp
    rw [he]
    exact hK _ _ hS (by rw [hd]; exact h)
end
/-! ### The same without a condition on worlds -/
section
variable {P : Program} {ops : Array Oper} {Q : Exit → Act → World → Prop} {md : Region.Mode}
theorem any_yield (i : Nat) {oi : Oper} (d : Option Tmp) (v : Value) {fuel : Nat} {listed : Array Bool} {a : Act} {w : World} (hi : ops[i]? = some oi)
    (hs : Region.noSelect ops = true) (hf : Region.free md ops listed i = true) (hr : (Region.ready md ops listed).contains i = true)
    (hQ : ∀ c a w, Q (.panic c) (a.put oi.dst v) w → Q (.panic c) a w) (hg : oi.guard = none) (hd : oi.dst = d) (he : ∀ w', (execOp a.eval oi).run P w' = .ok (.value v) w')
    (h : wpAny P md ops Q fuel (listed.setIfInBounds i true) (a.put d v) w) : wpAny P md ops Q (fuel + 1) listed a w :=
  wpAny_take hi hs hf hr hQ (.inl ⟨by simp [Region.wanted, hg], he⟩) (by rw [hd]; exact h)
theorem any_oper (i : Nat) {oi : Oper} {fuel : Nat} {listed : Array Bool} {a : Act} {w : World} (hr : Region.ready md ops listed = [i]) (hi : ops[i]? = some oi) (hg : oi.guard = none)
    (h : ∀ K : Act → World → Prop, (∀ a' w', wpAny P md ops Q fuel (listed.setIfInBounds i true) a' w' → K a' w') → Oper.wp P oi a w K Q) : wpAny P md ops Q (fuel + 1) listed a w :=
  wpAny_all hr (by simp) fun j hj => by
    obtain rfl : j = i := by simpa using hj
    refine wpOp_step hi fun K hK => ?_
    rw [if_pos (by simp [Region.wanted, hg])]
    exact h K fun a' w' hW => hK a' w' hW
theorem any_two (i j : Nat) {oi oj : Oper} {fuel : Nat} {listed : Array Bool} {a : Act} {w : World} (hr : Region.ready md ops listed = [i, j]) (hi : ops[i]? = some oi) (hj : ops[j]? = some oj) (hg : oi.guard = none) (hg' : oj.guard = none)
    (h : ∀ K : Act → World → Prop, (∀ a' w', wpAny P md ops Q fuel (listed.setIfInBounds i true) a' w' → K a' w') → Oper.wp P oi a w K Q)
    (h' : ∀ K : Act → World → Prop, (∀ a' w', wpAny P md ops Q fuel (listed.setIfInBounds j true) a' w' → K a' w') → Oper.wp P oj a w K Q) : wpAny P md ops Q (fuel + 1) listed a w :=
  wpAny_all hr (by simp) fun x hx => by
    have hx' : x = i ∨ x = j := by simpa using hx
    rcases hx' with rfl | rfl
    · refine wpOp_step hi fun K hK => ?_
      rw [if_pos (by simp [Region.wanted, hg])]
      exact h K fun a' w' hW => hK a' w' hW
    · refine wpOp_step hj fun K hK => ?_
      rw [if_pos (by simp [Region.wanted, hg'])]
      exact h' K fun a' w' hW => hK a' w' hW
theorem any_exec (i : Nat) {oi : Oper} (d : Option Tmp) (v : Value) {fuel : Nat} {listed : Array Bool} {a : Act} {w w' : World} (hr : Region.ready md ops listed = [i]) (hi : ops[i]? = some oi) (hg : oi.guard = none) (hd : oi.dst = d)
    (he : (execOp a.eval oi).run P w = .ok (.value v) w') (h : wpAny P md ops Q fuel (listed.setIfInBounds i true) (a.put d v) w') : wpAny P md ops Q (fuel + 1) listed a w :=
  any_oper i hr hi hg fun K hK => by
    unfold Oper.wp
    rw [he]
    exact hK _ _ (by rw [hd]; exact h)
theorem wp_exec {o : Oper} {a : Act} {w w' : World} {K : Act → World → Prop} (d : Option Tmp) (hd : o.dst = d) (v : Value) (he : (execOp a.eval o).run P w = .ok (.value v) w') (h : K (a.put d v) w') : Oper.wp P o a w K Q := by
  subst hd
  unfold Oper.wp
  rw [he]
  exact h
theorem exec_mul {o : Oper} {a : Act} {w : World} (t t' : TypeId) (x y : Operand) (ho : o.op = .binOp .mul t x y t') (m n r : Int) (hx : a.eval x = .int .i64 m) (hy : a.eval y = .int .i64 n) (hr : IntKind.i64.wrap (m * n) = r) :
    (execOp a.eval o).run P w = .ok (.value (.int .i64 r)) w := by
  subst hr
  unfold execOp
  simp only [ho, hx, hy]
  simp [go_sem]
theorem exec_add {o : Oper} {a : Act} {w : World} (t t' : TypeId) (x y : Operand) (ho : o.op = .binOp .add t x y t') (m n r : Int) (hx : a.eval x = .int .i64 m) (hy : a.eval y = .int .i64 n) (hr : IntKind.i64.wrap (m + n) = r) :
    (execOp a.eval o).run P w = .ok (.value (.int .i64 r)) w := by
  subst hr
  unfold execOp
  simp only [ho, hx, hy]
  simp [go_sem]
/-- A call of a Go function by its contract, as one operation. -/
theorem wp_call {o : Oper} {a : Act} {w : World} {K : Act → World → Prop} (d : Option Tmp) (hd : o.dst = d) (f : Nat) (xs : Array Operand) (ts : Array TypeId) (ho : o.op = .call { callee := .value (.func f), args := xs, argTypes := ts }) (hcall : ∀ args w, (callFunc f args).run P w = .ok (.enter f args) w)
    (vs : Array Value) (hx : xs.map a.eval = vs) (post : Ending → World → Prop) (hc : Calls P f vs w post) (h : ∀ e w', post e w' → ∃ v, e = .returned v ∧ K (a.put d v) w') : Oper.wp P o a w K Q := by
  subst hx hd
  unfold Oper.wp execOp
  simp only [ho]
  simp [go_sem]
  rw [hcall, Oper.upon_enter]
  refine hc.mono fun e w' hp => ?_
  obtain ⟨v, rfl, hk⟩ := h e w' hp
  exact hk
theorem wp_call3 {o : Oper} {a : Act} {w : World} {K : Act → World → Prop} (d : Option Tmp) (hd : o.dst = d) (f : Nat) (x y z : Operand) (ts : Array TypeId) (ho : o.op = .call { callee := .value (.func f), args := #[x, y, z], argTypes := ts }) (hcall : ∀ args w, (callFunc f args).run P w = .ok (.enter f args) w)
    (v1 v2 v3 : Value) (hx : a.eval x = v1) (hy : a.eval y = v2) (hz : a.eval z = v3) (post : Ending → World → Prop) (hc : Calls P f #[v1, v2, v3] w post) (h : ∀ e w', post e w' → ∃ v, e = .returned v ∧ K (a.put d v) w') : Oper.wp P o a w K Q :=
  wp_call d hd f #[x, y, z] ts ho hcall #[v1, v2, v3] (by simp [hx, hy, hz]) post hc h
/-- A store of a whole array of bytes. -/
theorem wp_store_bytes {o : Oper} {a : Act} {w : World} {K : Act → World → Prop} (ty : TypeId) (x y : Operand) (ho : o.op = .store ty x y) (hdst : o.dst = none) (g : Nat) (hx : a.eval x = .pointer (some ⟨g, 0, none⟩)) (r : List Nat) (hy : a.eval y = .agg (u8s r))
    (t : TypeId) (l : List Nat) (hg : At w g (.cells (u8s l) t (0, 0))) (n : Nat) (hi : (P.info? ty).map (·.size) = some n) (hn : r.length = n) (hl : l.length = n)
    (h : ∀ w', Put w w' g (.cells (u8s r) t (0, 0)) → K a w') : Oper.wp P o a w K Q := by
  have hs := run_storeVar_part (P := P) w g 0 t ty (u8s l) (u8s r) hg (by rw [u8s_size, hn]; exact hi) (by rw [u8s_size, u8s_size]; omega) (u8s_one r)
  rw [splice_all (by rw [u8s_size, u8s_size]; omega)] at hs
  unfold Oper.wp execOp
  simp only [ho, hx, hy, Instr.storeAt, Instr.sureAddr, Sem.run_bind, Sem.run_pure, Result.andThen_ok, hs]
  simp only [Oper.upon, hdst, Act.put]
  exact h _ ⟨setRow_heap _ _ _ _ _ _ hg, fun h' hk => (setRow_other _ _ _ _ hk).trans h', fun hs => (setRow_size _ _ _).trans hs, fun hb hB => below_setRow' hb hB _⟩
theorem wp_call1 {o : Oper} {a : Act} {w : World} {K : Act → World → Prop} (d : Option Tmp) (hd : o.dst = d) (f : Nat) (x : Operand) (ts : Array TypeId) (ho : o.op = .call { callee := .value (.func f), args := #[x], argTypes := ts }) (hcall : ∀ args w, (callFunc f args).run P w = .ok (.enter f args) w)
    (v1 : Value) (hx : a.eval x = v1) (post : Ending → World → Prop) (hc : Calls P f #[v1] w post) (h : ∀ e w', post e w' → ∃ v, e = .returned v ∧ K (a.put d v) w') : Oper.wp P o a w K Q :=
  wp_call d hd f #[x] ts ho hcall #[v1] (by simp [hx]) post hc h
end
end Go.Proofs.Ytebmkmkhfhmfbaa
namespace Go.Proofs.Ytebmkmkhfhmfbaa
open Go.RowKit
section
variable {P : Program} {ops : Array Oper} {Q : Exit → Act → World → Prop} {md : Region.Mode}
def dstOf (ops : Array Oper) (i : Nat) : Option Tmp := (ops[i]?).bind (·.dst)
/-- The frame behind those operations of which 'L' tells. -/
def putAll (ops : Array Oper) (L : Nat → Bool) (vals : Nat → Value) (a : Act) : Nat → Act
  | 0 => a
  | n + 1 => if L n then (putAll ops L vals a n).put (dstOf ops n) (vals n) else putAll ops L vals a n
def upL (L : Nat → Bool) (i : Nat) : Nat → Bool := fun j => if j = i then true else L j
def upV (vals : Nat → Value) (i : Nat) (v : Value) : Nat → Value := fun j => if j = i then v else vals j
/-- No two operations write the same slot. -/
def apartB (ops : Array Oper) : Bool := (List.range ops.size).all fun j => (List.range j).all fun i => match dstOf ops i with | some d => dstOf ops j != some d | none => true
/-- Nobody waits for a later one. -/
def backB (md : Region.Mode) (ops : Array Oper) : Bool := (List.range ops.size).all fun j => match ops[j]? with | some o => o.after.all fun e => !(Region.binds md e) || decide (e.on < j) | none => true
theorem apartB_spec (h : apartB ops = true) {i j : Nat} (hij : i < j) (hj : j < ops.size) : ∀ d, dstOf ops i = some d → dstOf ops j ≠ some d := by
  intro d hd
  unfold apartB at h
  rw [List.all_eq_true] at h
  have h1 := h j (List.mem_range.2 hj)
  rw [List.all_eq_true] at h1
  have h2 := h1 i (List.mem_range.2 hij)
  rw [hd] at h2
  simpa using h2
theorem backB_spec (h : backB md ops = true) {j : Nat} {o : Oper} (ho : ops[j]? = some o) : ∀ e ∈ o.after, Region.binds md e = true → e.on < j := by
  intro e he hbd
  unfold backB at h
  rw [List.all_eq_true] at h
  have hj : j < ops.size := (Array.getElem?_eq_some_iff.1 ho).1
  have h1 := h j (List.mem_range.2 hj)
  rw [ho] at h1
  simp only [Array.all_eq_true_iff_forall_mem, decide_eq_true_eq, Bool.or_eq_true] at h1
  rcases h1 e he with h2 | h2
  · rw [hbd] at h2
    cases h2
  · exact h2
theorem putAll_congr {L L' : Nat → Bool} {vals vals' : Nat → Value} (a : Act) : ∀ n, (∀ j, j < n → L' j = L j ∧ vals' j = vals j) → putAll ops L' vals' a n = putAll ops L vals a n
  | 0, _ => rfl
  | n + 1, h => by
    have h1 := h n (by omega)
    simp only [putAll]
    rw [h1.1, h1.2, putAll_congr a n (fun j hj => h j (by omega))]
theorem putAll_up (hd : apartB ops = true) {L : Nat → Bool} {vals : Nat → Value} (a : Act) {i : Nat} (v : Value) (hi : L i = false) : ∀ n, n ≤ ops.size → i < n → putAll ops (upL L i) (upV vals i v) a n = (putAll ops L vals a n).put (dstOf ops i) v
  | 0, _, h => by omega
  | n + 1, hn, h => by
    simp only [putAll]
    by_cases e : n = i
    · subst e
      rw [putAll_congr (L := L) (vals := vals) a n (fun j hj => by simp [upL, upV, show j ≠ n by omega]), hi]
      simp [upL, upV]
    · have ih := putAll_up hd (L := L) (vals := vals) a v hi n (by omega) (by omega)
      have e1 : upL L i n = L n := by simp [upL, e]
      have e2 : upV vals i v n = vals n := by simp [upV, e]
      rw [e1, e2, ih]
      split
      · exact Act.put_comm _ _ _ (apartB_spec hd (show i < n by omega) (by omega))
      · rfl
theorem put_size (a : Act) (d : Option Tmp) (v : Value) : (a.put d v).tmps.size = a.tmps.size := by cases d <;> simp [Act.put]
theorem putAll_size {L : Nat → Bool} {vals : Nat → Value} (a : Act) : ∀ n, (putAll ops L vals a n).tmps.size = a.tmps.size
  | 0 => rfl
  | n + 1 => by
    simp only [putAll]
    split
    · rw [put_size, putAll_size a n]
    · exact putAll_size a n
theorem eval_put_same (a : Act) (t : Tmp) (v : Value) (h : t < a.tmps.size) : (a.put (some t) v).eval (.tmp t) = v := by
  simp [Act.put, Act.eval, h]
theorem eval_put_ne (a : Act) (d : Option Tmp) (t : Tmp) (v : Value) (h : d ≠ some t) : (a.put d v).eval (.tmp t) = a.eval (.tmp t) :=
  Act.eval_put fun d' hd e => h (by rw [hd]; simp only [Operand.tmp.injEq] at e; rw [e])
theorem putAll_eval (hd : apartB ops = true) {L : Nat → Bool} {vals : Nat → Value} (a : Act) {j : Nat} {t : Tmp} (hj : dstOf ops j = some t) (hL : L j = true) (ht : t < a.tmps.size) : ∀ n, n ≤ ops.size → j < n → (putAll ops L vals a n).eval (.tmp t) = vals j
  | 0, _, h => by omega
  | n + 1, hn, h => by
    simp only [putAll]
    by_cases e : n = j
    · subst e
      rw [hL, hj, if_pos rfl]
      exact eval_put_same _ _ _ (by rw [putAll_size]; exact ht)
    · have ih := putAll_eval hd (vals := vals) a hj hL ht n (by omega) (by omega)
      split
      · rw [eval_put_ne _ _ _ _ (apartB_spec hd (show j < n by omega) (by omega) t hj)]
        exact ih
      · exact ih
theorem putAll_other {L : Nat → Bool} {vals : Nat → Value} (a : Act) {t : Tmp} : ∀ n, ((List.range n).all fun j => dstOf ops j != some t) = true → (putAll ops L vals a n).eval (.tmp t) = a.eval (.tmp t)
  | 0, _ => rfl
  | n + 1, h => by
    have h' : ((List.range n).all fun j => dstOf ops j != some t) = true ∧ dstOf ops n ≠ some t := by
      rw [List.range_succ, List.all_append] at h
      simpa using h
    simp only [putAll]
    split
    · rw [eval_put_ne _ _ _ _ h'.2]
      exact putAll_other a n h'.1
    · exact putAll_other a n h'.1
/-- Whoever has come up, those that it waits for have, too. -/
def Shut' (md : Region.Mode) (ops : Array Oper) (L : Nat → Bool) : Prop := ∀ i o, ops[i]? = some o → L i = true → ∀ e ∈ o.after, Region.binds md e = true → L e.on = true
def waits (md : Region.Mode) (ops : Array Oper) (i : Nat) : List Nat := match ops[i]? with | some o => (o.after.toList.filter (Region.binds md)).map (·.on) | none => []
theorem mem_waits {i : Nat} {o : Oper} (ho : ops[i]? = some o) {j : Nat} : j ∈ waits md ops i ↔ ∃ e ∈ o.after, Region.binds md e = true ∧ e.on = j := by
  unfold waits
  rw [ho]
  simp only [List.mem_map, List.mem_filter, Array.mem_toList_iff]
  constructor
  · rintro ⟨e, ⟨h1, h2⟩, h3⟩
    exact ⟨e, h1, h2, h3⟩
  · rintro ⟨e, h1, h2, h3⟩
    exact ⟨e, ⟨h1, h2⟩, h3⟩
/-- What is to be shown of operation 'i'. -/
def StepOK (P : Program) (md : Region.Mode) (ops : Array Oper) (Q : Exit → Act → World → Prop) (a0 : Act) (I : (Nat → Bool) → (Nat → Value) → World → Prop) (i : Nat) : Prop :=
  ∀ L vals w, (∀ k, L k = true → ∀ j, j ∈ waits md ops k → L j = true) → L i = false → (∀ j, j ∈ waits md ops i → L j = true) → I L vals w →
    wpOp P ops Q i (fun a' w' => ∃ v, a' = (putAll ops L vals a0 ops.size).put (dstOf ops i) v ∧ I (upL L i) (upV vals i v) w') (putAll ops L vals a0 ops.size) w
def StepsOK (P : Program) (md : Region.Mode) (ops : Array Oper) (Q : Exit → Act → World → Prop) (a0 : Act) (I : (Nat → Bool) → (Nat → Value) → World → Prop) (n : Nat) : Prop := ∀ i, i < n → StepOK P md ops Q a0 I i
theorem StepsOK.zero {a0 : Act} {I : (Nat → Bool) → (Nat → Value) → World → Prop} : StepsOK P md ops Q a0 I 0 := fun _ h => by omega
theorem StepsOK.succ {a0 : Act} {I : (Nat → Bool) → (Nat → Value) → World → Prop} {n : Nat} (h : StepsOK P md ops Q a0 I n) (h' : StepOK P md ops Q a0 I n) : StepsOK P md ops Q a0 I (n + 1) := fun i hi => by
  by_cases e : i = n
  · subst e; exact h'
  · exact h i (by omega)
/-- An operation that stands under no guard. -/
theorem step_at {a0 : Act} {I : (Nat → Bool) → (Nat → Value) → World → Prop} (i : Nat) (oi : Oper) (hi : ops[i]? = some oi) (hg : oi.guard = none) (js : List Nat) (hw : waits md ops i = js)
    (h : ∀ L vals w, (∀ k, L k = true → ∀ j, j ∈ waits md ops k → L j = true) → L i = false → (∀ j, j ∈ js → L j = true) → I L vals w →
      Oper.wp P oi (putAll ops L vals a0 ops.size) w (fun a' w' => ∃ v, a' = (putAll ops L vals a0 ops.size).put oi.dst v ∧ I (upL L i) (upV vals i v) w') Q) : StepOK P md ops Q a0 I i := by
  subst hw
  intro L vals w hc hn hd hI
  have h1 := h L vals w hc hn hd hI
  unfold wpOp
  rw [hi]
  simp only
  rw [if_pos (by simp [Region.wanted, hg])]
  refine .inl ?_
  have e : dstOf ops i = oi.dst := by simp [dstOf, hi]
  rw [e]
  exact h1
theorem unlisted_min {listed : Array Bool} (hb : backB md ops = true) (hs : listed.size = ops.size) (h : Region.ready md ops listed = []) : ∀ n i, i < n → i < ops.size → listed.getD i false = true
  | 0, _, h, _ => by omega
  | n + 1, i, hi, hsz => by
    cases hl : listed.getD i false with
    | true => rfl
    | false =>
      exfalso
      have hm : i ∈ Region.ready md ops listed := by
        rw [mem_ready]
        refine ⟨?_, ops[i], Array.getElem?_eq_getElem hsz, fun e he hbd => ?_⟩
        · simp [show i < listed.size by omega] at hl ⊢
          exact hl
        · have hlt := backB_spec hb (Array.getElem?_eq_getElem hsz) e he hbd
          exact unlisted_min hb hs h n e.on (by omega) (by omega)
      rw [h] at hm
      cases hm
def left (listed : Array Bool) : Nat → Nat
  | 0 => 0
  | n + 1 => left listed n + if listed.getD n false then 0 else 1
theorem left_set {listed : Array Bool} {i : Nat} (hi : i < listed.size) (hn : listed.getD i false = false) : ∀ n, i < n → left (listed.setIfInBounds i true) n + 1 = left listed n
  | 0, h => by omega
  | n + 1, h => by
    by_cases e : n = i
    · subst e
      have h1 : ∀ m, m ≤ n → left (listed.setIfInBounds n true) m = left listed m := by
        intro m
        induction m with
        | zero => intro _; rfl
        | succ m ih =>
          intro hm
          simp only [left]
          rw [ih (by omega), getD_set_ne false (show n ≠ m by omega)]
      simp only [left]
      rw [h1 n (Nat.le_refl _), hn]
      simp [hi]
    · simp only [left]
      have ih := left_set hi hn n (by omega)
      rw [getD_set_ne false (Ne.symm e)]
      omega
theorem left_pos {listed : Array Bool} {i : Nat} (hn : listed.getD i false = false) : ∀ n, i < n → 0 < left listed n
  | 0, h => by omega
  | n + 1, h => by
    simp only [left]
    by_cases e : n = i
    · subst e
      rw [hn]
      simp
    · have := left_pos hn n (by omega)
      omega
theorem wpAny_inv (hd : apartB ops = true) (hb : backB md ops = true) (a0 : Act) (I : (Nat → Bool) → (Nat → Value) → World → Prop) (step : StepsOK P md ops Q a0 I ops.size)
    (done : ∀ L vals w, (∀ i, i < ops.size → L i = true) → I L vals w → Q .normal (putAll ops L vals a0 ops.size) w) :
    ∀ (fuel : Nat) (listed : Array Bool) (vals : Nat → Value) (w : World), listed.size = ops.size → left listed ops.size ≤ fuel →
      (∀ k, listed.getD k false = true → ∀ j, j ∈ waits md ops k → listed.getD j false = true) → I (fun i => listed.getD i false) vals w →
      wpAny P md ops Q fuel listed (putAll ops (fun i => listed.getD i false) vals a0 ops.size) w
  | 0, listed, vals, w, hs, hf, hc, hI => by
    have hall : ∀ i, i < ops.size → listed.getD i false = true := fun i hi => by
      cases hl : listed.getD i false with
      | true => rfl
      | false =>
        have := left_pos hl ops.size hi
        omega
    refine ⟨?_, done _ _ _ hall hI⟩
    cases hr : Region.ready md ops listed with
    | nil => rfl
    | cons i rs =>
      exfalso
      have hm : i ∈ Region.ready md ops listed := by rw [hr]; simp
      obtain ⟨h0, o, ho, _⟩ := mem_ready.1 hm
      have hi : i < ops.size := (Array.getElem?_eq_some_iff.1 ho).1
      have h1 := hall i hi
      simp [show i < listed.size by omega] at h0 h1
      rw [h0] at h1
      cases h1
  | fuel + 1, listed, vals, w, hs, hf, hc, hI => by
    refine ⟨fun hr => done _ _ _ (fun i hi => unlisted_min hb hs hr (i + 1) i (by omega) hi) hI, fun i hi => ?_⟩
    obtain ⟨h0, o, ho, hw⟩ := mem_ready.1 hi
    have hlt : i < ops.size := (Array.getElem?_eq_some_iff.1 ho).1
    have h0' : listed.getD i false = false := by
      simp [show i < listed.size by omega] at h0 ⊢
      exact h0
    have hwait : ∀ j, j ∈ waits md ops i → listed.getD j false = true := fun j hj => by
      obtain ⟨e, he, hbd, rfl⟩ := (mem_waits ho).1 hj
      exact hw e he hbd
    have eL : (fun j => (listed.setIfInBounds i true).getD j false) = upL (fun j => listed.getD j false) i := by
      funext j
      unfold upL
      by_cases e : j = i
      · subst e
        simp [show j < listed.size by omega]
      · rw [if_neg e]
        exact getD_set_ne false (Ne.symm e)
    refine wpOp_mono (fun a' w' h => ?_) (step i hlt _ vals w hc h0' hwait hI)
    obtain ⟨v, rfl, hI'⟩ := h
    rw [← putAll_up hd a0 v h0' ops.size (Nat.le_refl _) hlt, ← eL]
    refine wpAny_inv hd hb a0 I step done fuel _ _ w' (by simpa using hs) ?_ ?_ (by rw [eL]; exact hI')
    · have := left_set (listed := listed) (i := i) (by omega) h0' ops.size hlt
      omega
    · intro k hk j hj
      by_cases e : k = i
      · subst e
        exact getD_set_true (hwait j hj)
      · rw [getD_set_ne false (Ne.symm e)] at hk
        exact getD_set_true (hc k hk j hj)
theorem left_start : ∀ n m, left (Array.replicate m false) n = n
  | 0, _ => rfl
  | n + 1, m => by
    simp only [left]
    rw [left_start n m]
    by_cases h : n < m <;> simp [h]
theorem putAll_none {L : Nat → Bool} {vals : Nat → Value} (a : Act) (h : ∀ i, L i = false) : ∀ n, putAll ops L vals a n = a
  | 0 => rfl
  | n + 1 => by
    simp only [putAll, h n]
    exact putAll_none a h n
/-- The region as a whole. -/
theorem wp_region_inv {id : Nat} {a : Act} {w : World} (hm : P.follows .mixedOrders = true) (hd : apartB ops = true) (hb : backB .any ops = true) (I : (Nat → Bool) → (Nat → Value) → World → Prop)
    (start : I (fun _ => false) (fun _ => undef) w.drew) (n : Nat) (hn : ops.size = n) (step : StepsOK P .any ops Q a I n)
    (done : ∀ L vals w, (∀ i, i < n → L i = true) → I L vals w → Q .normal (putAll ops L vals a n) w) : (Code.region id ops true).wp P Q a w := by
  subst hn
  refine wp_region_any hm ?_
  have e : (fun i => (Array.replicate ops.size false).getD i false) = fun _ => false := by
    funext i
    by_cases h : i < ops.size <;> simp [h]
  have h := wpAny_inv hd hb a I step done ops.size (Array.replicate ops.size false) (fun _ => undef) w.drew (by simp) (by rw [left_start]; exact Nat.le_refl _) (by
    intro k hk
    rw [show (Array.replicate ops.size false).getD k false = false from congrFun e k] at hk
    cases hk) (by rw [e]; exact start)
  rw [e, putAll_none a (fun _ => rfl)] at h
  exact h
end
end Go.Proofs.Ytebmkmkhfhmfbaa
namespace Go.Proofs.Ytebmkmkhfhmfbaa
open Go.RowKit
section
variable {P : Program} {ops : Array Oper} {Q : Exit → Act → World → Prop} {md : Region.Mode} {S : World → Prop} {z : Nat}
/-- Whatever comes up; 'S' holds behind each but 'z'. -/
def wpAnyZ (P : Program) (md : Region.Mode) (ops : Array Oper) (Q : Exit → Act → World → Prop) (S : World → Prop) (z : Nat) : Nat → Array Bool → Act → World → Prop
  | 0, listed, a, w => Region.ready md ops listed = [] ∧ Q .normal a w
  | fuel + 1, listed, a, w =>
    (Region.ready md ops listed = [] → Q .normal a w) ∧
    ∀ i ∈ Region.ready md ops listed, wpOp P ops Q i (fun a' w' => (i ≠ z → S w') ∧ wpAnyZ P md ops Q S z fuel (listed.setIfInBounds i true) a' w') a w
theorem wpAny_of_z : ∀ (fuel : Nat) (listed : Array Bool) (a : Act) (w : World), wpAnyZ P md ops Q S z fuel listed a w → wpAny P md ops Q fuel listed a w
  | 0, _, _, _, h => h
  | fuel + 1, _, _, _, h => by
    refine ⟨h.1, fun i hi => wpOp_mono ?_ (h.2 i hi)⟩
    intro a' w' h'
    exact wpAny_of_z fuel _ a' w' h'.2
/-- Whoever waits for 'i' can't come up before it. -/
theorem not_ready_before {i j : Nat} {listed : Array Bool} (hij : i ∈ waits md ops j) (hi : listed.getD i false = false) : j ∉ Region.ready md ops listed := fun hj => by
  obtain ⟨_, o, ho, hw⟩ := mem_ready.1 hj
  obtain ⟨e, he, hb, rfl⟩ := (mem_waits ho).1 hij
  rw [hw e he hb] at hi
  cases hi
theorem wpAnyZ_early {i : Nat} {oi : Oper} {v : Value} (hi : ops[i]? = some oi) (hz : i ∈ waits md ops z) (hs : Region.noSelect ops = true) (hQ : ∀ c a w, Q (.panic c) (a.put oi.dst v) w → Q (.panic c) a w) :
    ∀ (fuel : Nat) (listed : Array Bool) (a : Act) (w : World),
      (∀ j oj, ops[j]? = some oj → j ≠ i → listed.getD j true = false → (∀ e ∈ oj.after, Region.binds md e = true → e.on ≠ i) → oi.apart ops oj = true) →
      i ∈ Region.ready md ops listed → YieldsIf P ops S oi v a → S w → wpAnyZ P md ops Q S z fuel (listed.setIfInBounds i true) (a.put oi.dst v) w → wpAnyZ P md ops Q S z (fuel + 1) listed a w := by
  intro fuel
  induction fuel with
  | zero =>
    intro listed a w _ hr hy hS H
    constructor
    · intro h0
      rw [h0] at hr
      cases hr
    · intro j hj
      rcases Nat.decEq j i with hne | rfl
      · have h1 := ready_mono hj hne
        rw [H.1] at h1
        cases h1
      · exact hy.wpOp hi hS ⟨fun _ => hS, H⟩
  | succ fuel ih =>
    intro listed a w hap hr hy hS H
    constructor
    · intro h0
      rw [h0] at hr
      cases hr
    · intro j hj
      rcases Nat.decEq j i with hne | rfl
      · have hun : listed.getD i false = false := by
          have h0 := (mem_ready.1 hr).1
          exact getD_both h0
        have hjz : j ≠ z := fun e => not_ready_before (e ▸ hz) hun hj
        obtain ⟨hju, oj, hoj, hwj⟩ := mem_ready.1 hj
        have hno : ∀ e ∈ oj.after, Region.binds md e = true → e.on ≠ i := fun e he hb heq => by
          have h1 := hwj e he hb
          rw [heq, hun] at h1
          cases h1
        have hstep := wpOp_putIf hoj (hap j oj hoj hne hju hno) (fun cs b => Region.noSelect_spec hs i oi cs b hi) (fun cs b => Region.noSelect_spec hs j oj cs b hoj) hQ hy (H.2 j (ready_mono hj hne))
        refine wpOp_mono ?_ hstep
        rintro a' w' ⟨hy', hS', hrest⟩
        refine ⟨hS', ih (listed.setIfInBounds j true) a' w' ?_ (ready_mono hr (Ne.symm hne)) hy' (hS' hjz) ?_⟩
        · intro k ok hk hki hku hkn
          refine hap k ok hk hki ?_ hkn
          by_cases hjk : j = k
          · subst hjk
            exact hju
          · rwa [getD_set_ne true hjk] at hku
        · rw [Array.setIfInBounds_comm _ _ hne]
          exact hrest
      · exact hy.wpOp hi hS ⟨fun _ => hS, H⟩
/-- Take 'i' first. -/
theorem z_yield (i : Nat) {oi : Oper} (d : Option Tmp) (v : Value) {fuel : Nat} {listed : Array Bool} {a : Act} {w : World} (hi : ops[i]? = some oi) (hz : (waits md ops z).contains i = true)
    (hs : Region.noSelect ops = true) (hf : Region.free md ops listed i = true) (hr : (Region.ready md ops listed).contains i = true)
    (hQ : ∀ c a w, Q (.panic c) (a.put oi.dst v) w → Q (.panic c) a w) (hg : oi.guard = none) (hd : oi.dst = d) (hS : S w) (he : ∀ w', S w' → (execOp a.eval oi).run P w' = .ok (.value v) w')
    (h : wpAnyZ P md ops Q S z fuel (listed.setIfInBounds i true) (a.put d v) w) : wpAnyZ P md ops Q S z (fuel + 1) listed a w :=
  wpAnyZ_early hi (by simpa using hz) hs hQ fuel listed a w (Region.free_spec hi hf) (by simpa using hr) (.inl ⟨by simp [Region.wanted, hg], he⟩) hS (by rw [hd]; exact h)
theorem z_one {i : Nat} {oi : Oper} {fuel : Nat} {listed : Array Bool} {a : Act} {w : World} (hi : ops[i]? = some oi) (hg : oi.guard = none)
    (h : ∀ K : Act → World → Prop, (∀ a' w', (i ≠ z → S w') → wpAnyZ P md ops Q S z fuel (listed.setIfInBounds i true) a' w' → K a' w') → Oper.wp P oi a w K Q) :
    wpOp P ops Q i (fun a' w' => (i ≠ z → S w') ∧ wpAnyZ P md ops Q S z fuel (listed.setIfInBounds i true) a' w') a w := by
  refine wpOp_step hi fun K hK => ?_
  rw [if_pos (by simp [Region.wanted, hg])]
  exact h K fun a' w' hS hW => hK a' w' ⟨hS, hW⟩
theorem z_oper (i : Nat) {oi : Oper} {fuel : Nat} {listed : Array Bool} {a : Act} {w : World} (hr : Region.ready md ops listed = [i]) (hi : ops[i]? = some oi) (hg : oi.guard = none)
    (h : ∀ K : Act → World → Prop, (∀ a' w', (i ≠ z → S w') → wpAnyZ P md ops Q S z fuel (listed.setIfInBounds i true) a' w' → K a' w') → Oper.wp P oi a w K Q) : wpAnyZ P md ops Q S z (fuel + 1) listed a w :=
  ⟨fun h0 => (by rw [hr] at h0; cases h0), (by
    rw [hr]
    intro j hj
    obtain rfl : j = i := by simpa using hj
    exact z_one hi hg h)⟩
theorem z_two (i j : Nat) {oi oj : Oper} {fuel : Nat} {listed : Array Bool} {a : Act} {w : World} (hr : Region.ready md ops listed = [i, j]) (hi : ops[i]? = some oi) (hj : ops[j]? = some oj) (hg : oi.guard = none) (hg' : oj.guard = none)
    (h : ∀ K : Act → World → Prop, (∀ a' w', (i ≠ z → S w') → wpAnyZ P md ops Q S z fuel (listed.setIfInBounds i true) a' w' → K a' w') → Oper.wp P oi a w K Q)
    (h' : ∀ K : Act → World → Prop, (∀ a' w', (j ≠ z → S w') → wpAnyZ P md ops Q S z fuel (listed.setIfInBounds j true) a' w' → K a' w') → Oper.wp P oj a w K Q) : wpAnyZ P md ops Q S z (fuel + 1) listed a w :=
  ⟨fun h0 => (by rw [hr] at h0; cases h0), (by
    rw [hr]
    intro x hx
    have hx' : x = i ∨ x = j := by simpa using hx
    rcases hx' with rfl | rfl
    · exact z_one hi hg h
    · exact z_one hj hg' h')⟩
theorem z_exec (i : Nat) {oi : Oper} (d : Option Tmp) (v : Value) {fuel : Nat} {listed : Array Bool} {a : Act} {w w' : World} (hr : Region.ready md ops listed = [i]) (hi : ops[i]? = some oi) (hg : oi.guard = none) (hd : oi.dst = d)
    (he : (execOp a.eval oi).run P w = .ok (.value v) w') (hS : i ≠ z → S w') (h : wpAnyZ P md ops Q S z fuel (listed.setIfInBounds i true) (a.put d v) w') : wpAnyZ P md ops Q S z (fuel + 1) listed a w :=
  z_oper i hr hi hg fun K hK => by
    unfold Oper.wp
    rw [he]
    exact hK _ _ hS (by rw [hd]; exact h)
theorem z_done {listed : Array Bool} {a : Act} {w : World} (hr : Region.ready md ops listed = []) (h : Q .normal a w) : ∀ fuel, wpAnyZ P md ops Q S z fuel listed a w
  | 0 => ⟨hr, h⟩
  | _ + 1 => ⟨fun _ => h, by rw [hr]; simp⟩
theorem wp_region_z {id : Nat} {a : Act} {w : World} (hm : P.follows .mixedOrders = true)
    (h : wpAnyZ P .any ops Q S z ops.size (Array.replicate ops.size false) a w.drew) : (Code.region id ops true).wp P Q a w :=
  wp_region_any hm (wpAny_of_z _ _ _ _ h)
end
end Go.Proofs.Ytebmkmkhfhmfbaa
namespace Go.Proofs.Ytebmkmkhfhmfbaa
open Go.RowKit
section
variable {P : Program} {ops : Array Oper} {Q : Exit → Act → World → Prop} {md : Region.Mode} {S S2 : World → Prop} {zs : List Nat}
def wpAnyY (P : Program) (md : Region.Mode) (ops : Array Oper) (Q : Exit → Act → World → Prop) (S S2 : World → Prop) (zs : List Nat) : Nat → Array Bool → Act → World → Prop
  | 0, listed, a, w => Region.ready md ops listed = [] ∧ Q .normal a w
  | fuel + 1, listed, a, w =>
    (Region.ready md ops listed = [] → Q .normal a w) ∧
    ∀ i ∈ Region.ready md ops listed, wpOp P ops Q i (fun a' w' => S w' ∧ (i ∉ zs → S2 w → S2 w') ∧ wpAnyY P md ops Q S S2 zs fuel (listed.setIfInBounds i true) a' w') a w
theorem wpAny_of_y : ∀ (fuel : Nat) (listed : Array Bool) (a : Act) (w : World), wpAnyY P md ops Q S S2 zs fuel listed a w → wpAny P md ops Q fuel listed a w
  | 0, _, _, _, h => h
  | fuel + 1, _, _, _, h => by
    refine ⟨h.1, fun i hi => wpOp_mono ?_ (h.2 i hi)⟩
    intro a' w' h'
    exact wpAny_of_y fuel _ a' w' h'.2.2
theorem wpAnyY_early {i : Nat} {oi : Oper} {v : Value} (hi : ops[i]? = some oi) (hz : ∀ z ∈ zs, i ∈ waits md ops z) (hs : Region.noSelect ops = true) (hQ : ∀ c a w, Q (.panic c) (a.put oi.dst v) w → Q (.panic c) a w) :
    ∀ (fuel : Nat) (listed : Array Bool) (a : Act) (w : World),
      (∀ j oj, ops[j]? = some oj → j ≠ i → listed.getD j true = false → (∀ e ∈ oj.after, Region.binds md e = true → e.on ≠ i) → oi.apart ops oj = true) →
      i ∈ Region.ready md ops listed → YieldsIf P ops (fun w => S w ∧ S2 w) oi v a → S w → S2 w → wpAnyY P md ops Q S S2 zs fuel (listed.setIfInBounds i true) (a.put oi.dst v) w → wpAnyY P md ops Q S S2 zs (fuel + 1) listed a w := by
  intro fuel
  induction fuel with
  | zero =>
    intro listed a w _ hr hy hS hS2 H
    constructor
    · intro h0
      rw [h0] at hr
      cases hr
    · intro j hj
      rcases Nat.decEq j i with hne | rfl
      · have h1 := ready_mono hj hne
        rw [H.1] at h1
        cases h1
      · exact hy.wpOp hi ⟨hS, hS2⟩ ⟨hS, fun _ _ => hS2, H⟩
  | succ fuel ih =>
    intro listed a w hap hr hy hS hS2 H
    constructor
    · intro h0
      rw [h0] at hr
      cases hr
    · intro j hj
      rcases Nat.decEq j i with hne | rfl
      · have hun : listed.getD i false = false := by
          have h0 := (mem_ready.1 hr).1
          exact getD_both h0
        have hjz : j ∉ zs := fun e => not_ready_before (hz j e) hun hj
        obtain ⟨hju, oj, hoj, hwj⟩ := mem_ready.1 hj
        have hno : ∀ e ∈ oj.after, Region.binds md e = true → e.on ≠ i := fun e he hb heq => by
          have h1 := hwj e he hb
          rw [heq, hun] at h1
          cases h1
        have hstep := wpOp_putIf hoj (hap j oj hoj hne hju hno) (fun cs b => Region.noSelect_spec hs i oi cs b hi) (fun cs b => Region.noSelect_spec hs j oj cs b hoj) hQ hy (H.2 j (ready_mono hj hne))
        refine wpOp_mono ?_ hstep
        rintro a' w' ⟨hy', hS', h2', hrest⟩
        refine ⟨hS', h2', ih (listed.setIfInBounds j true) a' w' ?_ (ready_mono hr (Ne.symm hne)) hy' hS' (h2' hjz hS2) ?_⟩
        · intro k ok hk hki hku hkn
          refine hap k ok hk hki ?_ hkn
          by_cases hjk : j = k
          · subst hjk
            exact hju
          · rwa [getD_set_ne true hjk] at hku
        · rw [Array.setIfInBounds_comm _ _ hne]
          exact hrest
      · exact hy.wpOp hi ⟨hS, hS2⟩ ⟨hS, fun _ _ => hS2, H⟩
theorem wpAnyY_free {i : Nat} {oi : Oper} {v : Value} (hi : ops[i]? = some oi) (hs : Region.noSelect ops = true) (hQ : ∀ c a w, Q (.panic c) (a.put oi.dst v) w → Q (.panic c) a w) :
    ∀ (fuel : Nat) (listed : Array Bool) (a : Act) (w : World),
      (∀ j oj, ops[j]? = some oj → j ≠ i → listed.getD j true = false → (∀ e ∈ oj.after, Region.binds md e = true → e.on ≠ i) → oi.apart ops oj = true) →
      i ∈ Region.ready md ops listed → YieldsIf P ops S oi v a → S w → wpAnyY P md ops Q S S2 zs fuel (listed.setIfInBounds i true) (a.put oi.dst v) w → wpAnyY P md ops Q S S2 zs (fuel + 1) listed a w := by
  intro fuel
  induction fuel with
  | zero =>
    intro listed a w _ hr hy hS H
    constructor
    · intro h0
      rw [h0] at hr
      cases hr
    · intro j hj
      rcases Nat.decEq j i with hne | rfl
      · have h1 := ready_mono hj hne
        rw [H.1] at h1
        cases h1
      · exact hy.wpOp hi hS ⟨hS, fun _ h => h, H⟩
  | succ fuel ih =>
    intro listed a w hap hr hy hS H
    constructor
    · intro h0
      rw [h0] at hr
      cases hr
    · intro j hj
      rcases Nat.decEq j i with hne | rfl
      · have hun : listed.getD i false = false := by
          have h0 := (mem_ready.1 hr).1
          exact getD_both h0
        obtain ⟨hju, oj, hoj, hwj⟩ := mem_ready.1 hj
        have hno : ∀ e ∈ oj.after, Region.binds md e = true → e.on ≠ i := fun e he hb heq => by
          have h1 := hwj e he hb
          rw [heq, hun] at h1
          cases h1
        have hstep := wpOp_putIf hoj (hap j oj hoj hne hju hno) (fun cs b => Region.noSelect_spec hs i oi cs b hi) (fun cs b => Region.noSelect_spec hs j oj cs b hoj) hQ hy (H.2 j (ready_mono hj hne))
        refine wpOp_mono ?_ hstep
        rintro a' w' ⟨hy', hS', h2', hrest⟩
        refine ⟨hS', h2', ih (listed.setIfInBounds j true) a' w' ?_ (ready_mono hr (Ne.symm hne)) hy' hS' ?_⟩
        · intro k ok hk hki hku hkn
          refine hap k ok hk hki ?_ hkn
          by_cases hjk : j = k
          · subst hjk
            exact hju
          · rwa [getD_set_ne true hjk] at hku
        · rw [Array.setIfInBounds_comm _ _ hne]
          exact hrest
      · exact hy.wpOp hi hS ⟨hS, fun _ h => h, H⟩
section
variable {fuel : Nat} {listed : Array Bool} {a : Act} {w : World}
theorem y_yield2 (i : Nat) {oi : Oper} (d : Option Tmp) (v : Value) (hi : ops[i]? = some oi) (hz : (zs.all fun z => (waits md ops z).contains i) = true)
    (hs : Region.noSelect ops = true) (hf : Region.free md ops listed i = true) (hr : (Region.ready md ops listed).contains i = true)
    (hQ : ∀ c a w, Q (.panic c) (a.put oi.dst v) w → Q (.panic c) a w) (hw : Region.wanted oi (yielded ops a.tmps) = true) (hd : oi.dst = d) (hS : S w) (hS2 : S2 w) (he : ∀ w', S w' → S2 w' → (execOp a.eval oi).run P w' = .ok (.value v) w')
    (h : wpAnyY P md ops Q S S2 zs fuel (listed.setIfInBounds i true) (a.put d v) w) : wpAnyY P md ops Q S S2 zs (fuel + 1) listed a w :=
  wpAnyY_early hi (fun z hm => by have := List.all_eq_true.1 hz z hm; simpa using this) hs hQ fuel listed a w (Region.free_spec hi hf) (by simpa using hr) (.inl ⟨hw, fun w' h' => he w' h'.1 h'.2⟩) hS hS2 (by rw [hd]; exact h)
theorem y_yield (i : Nat) {oi : Oper} (d : Option Tmp) (v : Value) (hi : ops[i]? = some oi)
    (hs : Region.noSelect ops = true) (hf : Region.free md ops listed i = true) (hr : (Region.ready md ops listed).contains i = true)
    (hQ : ∀ c a w, Q (.panic c) (a.put oi.dst v) w → Q (.panic c) a w) (hw : Region.wanted oi (yielded ops a.tmps) = true) (hd : oi.dst = d) (hS : S w) (he : ∀ w', S w' → (execOp a.eval oi).run P w' = .ok (.value v) w')
    (h : wpAnyY P md ops Q S S2 zs fuel (listed.setIfInBounds i true) (a.put d v) w) : wpAnyY P md ops Q S S2 zs (fuel + 1) listed a w :=
  wpAnyY_free hi hs hQ fuel listed a w (Region.free_spec hi hf) (by simpa using hr) (.inl ⟨hw, he⟩) hS (by rw [hd]; exact h)
theorem y_skip (i : Nat) {oi : Oper} (d : Option Tmp) (hi : ops[i]? = some oi)
    (hs : Region.noSelect ops = true) (hf : Region.free md ops listed i = true) (hr : (Region.ready md ops listed).contains i = true)
    (hQ : ∀ c a w, Q (.panic c) (a.put oi.dst undef) w → Q (.panic c) a w) (hw : Region.wanted oi (yielded ops a.tmps) = false) (hd : oi.dst = d) (hS : S w)
    (h : wpAnyY P md ops Q S S2 zs fuel (listed.setIfInBounds i true) (a.put d undef) w) : wpAnyY P md ops Q S S2 zs (fuel + 1) listed a w :=
  wpAnyY_free hi hs hQ fuel listed a w (Region.free_spec hi hf) (by simpa using hr) (.inr ⟨hw, rfl⟩) hS (by rw [hd]; exact h)
theorem y_one {i : Nat} {oi : Oper} (hi : ops[i]? = some oi) (hw : Region.wanted oi (yielded ops a.tmps) = true)
    (h : ∀ K : Act → World → Prop, (∀ a' w', S w' → (i ∉ zs → S2 w') → wpAnyY P md ops Q S S2 zs fuel (listed.setIfInBounds i true) a' w' → K a' w') → Oper.wp P oi a w K Q) :
    wpOp P ops Q i (fun a' w' => S w' ∧ (i ∉ zs → S2 w → S2 w') ∧ wpAnyY P md ops Q S S2 zs fuel (listed.setIfInBounds i true) a' w') a w := by
  refine wpOp_step hi fun K hK => ?_
  rw [if_pos hw]
  exact h K fun a' w' hS hS2 hW => hK a' w' ⟨hS, fun h9 _ => hS2 h9, hW⟩
theorem y_oper (i : Nat) {oi : Oper} (hr : Region.ready md ops listed = [i]) (hi : ops[i]? = some oi) (hw : Region.wanted oi (yielded ops a.tmps) = true)
    (h : ∀ K : Act → World → Prop, (∀ a' w', S w' → (i ∉ zs → S2 w') → wpAnyY P md ops Q S S2 zs fuel (listed.setIfInBounds i true) a' w' → K a' w') → Oper.wp P oi a w K Q) : wpAnyY P md ops Q S S2 zs (fuel + 1) listed a w :=
  ⟨fun h0 => (by rw [hr] at h0; cases h0), (by
    rw [hr]
    intro j hj
    obtain rfl : j = i := by simpa using hj
    exact y_one hi hw h)⟩
theorem y_pass (i : Nat) {oi : Oper} (d : Option Tmp) (hr : Region.ready md ops listed = [i]) (hi : ops[i]? = some oi) (hw : Region.wanted oi (yielded ops a.tmps) = false) (hd : oi.dst = d) (hS : S w)
    (h : wpAnyY P md ops Q S S2 zs fuel (listed.setIfInBounds i true) (a.put d undef) w) : wpAnyY P md ops Q S S2 zs (fuel + 1) listed a w :=
  ⟨fun h0 => (by rw [hr] at h0; cases h0), (by
    rw [hr]
    intro j hj
    obtain rfl : j = i := by simpa using hj
    refine wpOp_step hi fun K hK => ?_
    rw [if_neg (by simp [hw]), hd]
    exact hK _ _ ⟨hS, fun _ h => h, h⟩)⟩
theorem y_two (i j : Nat) {oi oj : Oper} (hr : Region.ready md ops listed = [i, j]) (hi : ops[i]? = some oi) (hj : ops[j]? = some oj) (hw : Region.wanted oi (yielded ops a.tmps) = true) (hw' : Region.wanted oj (yielded ops a.tmps) = true)
    (h : ∀ K : Act → World → Prop, (∀ a' w', S w' → (i ∉ zs → S2 w') → wpAnyY P md ops Q S S2 zs fuel (listed.setIfInBounds i true) a' w' → K a' w') → Oper.wp P oi a w K Q)
    (h' : ∀ K : Act → World → Prop, (∀ a' w', S w' → (j ∉ zs → S2 w') → wpAnyY P md ops Q S S2 zs fuel (listed.setIfInBounds j true) a' w' → K a' w') → Oper.wp P oj a w K Q) : wpAnyY P md ops Q S S2 zs (fuel + 1) listed a w :=
  ⟨fun h0 => (by rw [hr] at h0; cases h0), (by
    rw [hr]
    intro x hx
    have hx' : x = i ∨ x = j := by simpa using hx
    rcases hx' with rfl | rfl
    · exact y_one hi hw h
    · exact y_one hj hw' h')⟩
theorem y_three (i j k : Nat) {oi oj ok : Oper} (hr : Region.ready md ops listed = [i, j, k]) (hi : ops[i]? = some oi) (hj : ops[j]? = some oj) (hk : ops[k]? = some ok) (hw : Region.wanted oi (yielded ops a.tmps) = true) (hw' : Region.wanted oj (yielded ops a.tmps) = true) (hw'' : Region.wanted ok (yielded ops a.tmps) = true)
    (h : ∀ K : Act → World → Prop, (∀ a' w', S w' → (i ∉ zs → S2 w') → wpAnyY P md ops Q S S2 zs fuel (listed.setIfInBounds i true) a' w' → K a' w') → Oper.wp P oi a w K Q)
    (h' : ∀ K : Act → World → Prop, (∀ a' w', S w' → (j ∉ zs → S2 w') → wpAnyY P md ops Q S S2 zs fuel (listed.setIfInBounds j true) a' w' → K a' w') → Oper.wp P oj a w K Q)
    (h'' : ∀ K : Act → World → Prop, (∀ a' w', S w' → (k ∉ zs → S2 w') → wpAnyY P md ops Q S S2 zs fuel (listed.setIfInBounds k true) a' w' → K a' w') → Oper.wp P ok a w K Q) : wpAnyY P md ops Q S S2 zs (fuel + 1) listed a w :=
  ⟨fun h0 => (by rw [hr] at h0; cases h0), (by
    rw [hr]
    intro x hx
    have hx' : x = i ∨ x = j ∨ x = k := by simpa using hx
    rcases hx' with rfl | rfl | rfl
    · exact y_one hi hw h
    · exact y_one hj hw' h'
    · exact y_one hk hw'' h'')⟩
theorem y_exec (i : Nat) {oi : Oper} (d : Option Tmp) (v : Value) {w' : World} (hr : Region.ready md ops listed = [i]) (hi : ops[i]? = some oi) (hw : Region.wanted oi (yielded ops a.tmps) = true) (hd : oi.dst = d)
    (he : (execOp a.eval oi).run P w = .ok (.value v) w') (hS : S w') (hS2 : i ∉ zs → S2 w') (h : wpAnyY P md ops Q S S2 zs fuel (listed.setIfInBounds i true) (a.put d v) w') : wpAnyY P md ops Q S S2 zs (fuel + 1) listed a w :=
  y_oper i hr hi hw fun K hK => by
    unfold Oper.wp
    rw [he]
    exact hK _ _ hS hS2 (by rw [hd]; exact h)
theorem y_done (hr : Region.ready md ops listed = []) (h : Q .normal a w) : ∀ fuel, wpAnyY P md ops Q S S2 zs fuel listed a w
  | 0 => ⟨hr, h⟩
  | _ + 1 => ⟨fun _ => h, by rw [hr]; simp⟩
end
theorem wp_region_y {id : Nat} {a : Act} {w : World} (hm : P.follows .mixedOrders = true)
    (h : wpAnyY P .any ops Q S S2 zs ops.size (Array.replicate ops.size false) a w.drew) : (Code.region id ops true).wp P Q a w :=
  wp_region_any hm (wpAny_of_y _ _ _ _ h)
end
end Go.Proofs.Ytebmkmkhfhmfbaa
