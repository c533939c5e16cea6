/-
  Regions that draw their order, walked by hand: what yields the same in every world that keeps S is taken first; what comes up alone is run by its own law. No function of the program is named here.
-/
import Derived.Test.YtelicajipilhjaaBase
import Derived.Deep.RegionHeld3
namespace Go.Proofs.Ytelicajipilhjaa
open Go.RowKit
section
variable {P : Program} {ops : Array Oper} {Q : Exit → Act → World → Prop} {md : Region.Mode} {S : World → Prop}
theorem held_yield (i : Nat) {oi : Oper} (d : Option Tmp) (v : Value) {fuel : Nat} {listed : Array Bool} {a : Act} {w : World} (hi : ops[i]? = some oi)
    (hs : Region.noSelect ops = true) (hf : Region.free md ops listed i = true) (hr : (Region.ready md ops listed).contains i = true)
    (hQ : ∀ c a w, Q (.panic c) (a.put oi.dst v) w → Q (.panic c) a w) (hg : oi.guard = none) (hd : oi.dst = d) (hS : S w) (he : ∀ w', S w' → (execOp a.eval oi).run P w' = .ok (.value v) w')
    (h : wpAnyH P md ops Q S fuel (listed.setIfInBounds i true) (a.put d v) w) : wpAnyH P md ops Q S (fuel + 1) listed a w :=
  wpAnyH_take hi hs hf hr hQ (.inl ⟨by simp [Region.wanted, hg], he⟩) hS (by rw [hd]; exact h)
theorem held_oper (i : Nat) {oi : Oper} {fuel : Nat} {listed : Array Bool} {a : Act} {w : World} (hr : Region.ready md ops listed = [i]) (hi : ops[i]? = some oi) (hg : oi.guard = none)
    (h : ∀ K : Act → World → Prop, (∀ a' w', S w' → wpAnyH P md ops Q S fuel (listed.setIfInBounds i true) a' w' → K a' w') → Oper.wp P oi a w K Q) : wpAnyH P md ops Q S (fuel + 1) listed a w :=
  wpAnyH_all hr (by simp) fun j hj => by
    obtain rfl : j = i := by simpa using hj
    refine wpOp_step hi fun K hK => ?_
    rw [if_pos (by simp [Region.wanted, hg])]
    exact h K fun a' w' hS hW => hK a' w' ⟨hS, hW⟩
/-- One of those that may come up, as an operation. -/
theorem held_one {i : Nat} {oi : Oper} {fuel : Nat} {listed : Array Bool} {a : Act} {w : World} (hi : ops[i]? = some oi) (hg : oi.guard = none)
    (h : ∀ K : Act → World → Prop, (∀ a' w', S w' → wpAnyH P md ops Q S fuel (listed.setIfInBounds i true) a' w' → K a' w') → Oper.wp P oi a w K Q) :
    wpOp P ops Q i (fun a' w' => S w' ∧ wpAnyH P md ops Q S fuel (listed.setIfInBounds i true) a' w') a w := by
  refine wpOp_step hi fun K hK => ?_
  rw [if_pos (by simp [Region.wanted, hg])]
  exact h K fun a' w' hS hW => hK a' w' ⟨hS, hW⟩
theorem held_two (i j : Nat) {oi oj : Oper} {fuel : Nat} {listed : Array Bool} {a : Act} {w : World} (hr : Region.ready md ops listed = [i, j]) (hi : ops[i]? = some oi) (hj : ops[j]? = some oj) (hg : oi.guard = none) (hg' : oj.guard = none)
    (h : ∀ K : Act → World → Prop, (∀ a' w', S w' → wpAnyH P md ops Q S fuel (listed.setIfInBounds i true) a' w' → K a' w') → Oper.wp P oi a w K Q)
    (h' : ∀ K : Act → World → Prop, (∀ a' w', S w' → wpAnyH P md ops Q S fuel (listed.setIfInBounds j true) a' w' → K a' w') → Oper.wp P oj a w K Q) : wpAnyH P md ops Q S (fuel + 1) listed a w :=
  wpAnyH_all hr (by simp) fun x hx => by
    have hx' : x = i ∨ x = j := by simpa using hx
    rcases hx' with rfl | rfl
    · exact held_one hi hg h
    · exact held_one hj hg' h'
theorem held_three (i j k : Nat) {oi oj ok : Oper} {fuel : Nat} {listed : Array Bool} {a : Act} {w : World} (hr : Region.ready md ops listed = [i, j, k]) (hi : ops[i]? = some oi) (hj : ops[j]? = some oj) (hk : ops[k]? = some ok)
    (hg : oi.guard = none) (hg' : oj.guard = none) (hg'' : ok.guard = none)
    (h : ∀ K : Act → World → Prop, (∀ a' w', S w' → wpAnyH P md ops Q S fuel (listed.setIfInBounds i true) a' w' → K a' w') → Oper.wp P oi a w K Q)
    (h' : ∀ K : Act → World → Prop, (∀ a' w', S w' → wpAnyH P md ops Q S fuel (listed.setIfInBounds j true) a' w' → K a' w') → Oper.wp P oj a w K Q)
    (h'' : ∀ K : Act → World → Prop, (∀ a' w', S w' → wpAnyH P md ops Q S fuel (listed.setIfInBounds k true) a' w' → K a' w') → Oper.wp P ok a w K Q) : wpAnyH P md ops Q S (fuel + 1) listed a w :=
  wpAnyH_all hr (by simp) fun x hx => by
    have hx' : x = i ∨ x = j ∨ x = k := by simpa using hx
    rcases hx' with rfl | rfl | rfl
    · exact held_one hi hg h
    · exact held_one hj hg' h'
    · exact held_one hk hg'' h''
theorem held_exec (i : Nat) {oi : Oper} (d : Option Tmp) (v : Value) {fuel : Nat} {listed : Array Bool} {a : Act} {w w' : World} (hr : Region.ready md ops listed = [i]) (hi : ops[i]? = some oi) (hg : oi.guard = none) (hd : oi.dst = d)
    (he : (execOp a.eval oi).run P w = .ok (.value v) w') (hS : S w') (h : wpAnyH P md ops Q S fuel (listed.setIfInBounds i true) (a.put d v) w') : wpAnyH P md ops Q S (fuel + 1) listed a w :=
  held_oper i hr hi hg fun K hK => by
    unfold Oper.wp
    rw [he]
    exact hK _ _ hS (by rw [hd]; exact h)
end
/-! ### The same without a condition on worlds -/
section
variable {P : Program} {ops : Array Oper} {Q : Exit → Act → World → Prop} {md : Region.Mode}
theorem any_yield (i : Nat) {oi : Oper} (d : Option Tmp) (v : Value) {fuel : Nat} {listed : Array Bool} {a : Act} {w : World} (hi : ops[i]? = some oi)
    (hs : Region.noSelect ops = true) (hf : Region.free md ops listed i = true) (hr : (Region.ready md ops listed).contains i = true)
    (hQ : ∀ c a w, Q (.panic c) (a.put oi.dst v) w → Q (.panic c) a w) (hg : oi.guard = none) (hd : oi.dst = d) (he : ∀ w', (execOp a.eval oi).run P w' = .ok (.value v) w')
    (h : wpAny P md ops Q fuel (listed.setIfInBounds i true) (a.put d v) w) : wpAny P md ops Q (fuel + 1) listed a w :=
  wpAny_take hi hs hf hr hQ (.inl ⟨by simp [Region.wanted, hg], he⟩) (by rw [hd]; exact h)
theorem any_oper (i : Nat) {oi : Oper} {fuel : Nat} {listed : Array Bool} {a : Act} {w : World} (hr : Region.ready md ops listed = [i]) (hi : ops[i]? = some oi) (hg : oi.guard = none)
    (h : ∀ K : Act → World → Prop, (∀ a' w', wpAny P md ops Q fuel (listed.setIfInBounds i true) a' w' → K a' w') → Oper.wp P oi a w K Q) : wpAny P md ops Q (fuel + 1) listed a w :=
  wpAny_all hr (by simp) fun j hj => by
    obtain rfl : j = i := by simpa using hj
    refine wpOp_step hi fun K hK => ?_
    rw [if_pos (by simp [Region.wanted, hg])]
    exact h K fun a' w' hW => hK a' w' hW
theorem any_two (i j : Nat) {oi oj : Oper} {fuel : Nat} {listed : Array Bool} {a : Act} {w : World} (hr : Region.ready md ops listed = [i, j]) (hi : ops[i]? = some oi) (hj : ops[j]? = some oj) (hg : oi.guard = none) (hg' : oj.guard = none)
    (h : ∀ K : Act → World → Prop, (∀ a' w', wpAny P md ops Q fuel (listed.setIfInBounds i true) a' w' → K a' w') → Oper.wp P oi a w K Q)
    (h' : ∀ K : Act → World → Prop, (∀ a' w', wpAny P md ops Q fuel (listed.setIfInBounds j true) a' w' → K a' w') → Oper.wp P oj a w K Q) : wpAny P md ops Q (fuel + 1) listed a w :=
  wpAny_all hr (by simp) fun x hx => by
    have hx' : x = i ∨ x = j := by simpa using hx
    rcases hx' with rfl | rfl
    · refine wpOp_step hi fun K hK => ?_
      rw [if_pos (by simp [Region.wanted, hg])]
      exact h K fun a' w' hW => hK a' w' hW
    · refine wpOp_step hj fun K hK => ?_
      rw [if_pos (by simp [Region.wanted, hg'])]
      exact h' K fun a' w' hW => hK a' w' hW
theorem any_exec (i : Nat) {oi : Oper} (d : Option Tmp) (v : Value) {fuel : Nat} {listed : Array Bool} {a : Act} {w w' : World} (hr : Region.ready md ops listed = [i]) (hi : ops[i]? = some oi) (hg : oi.guard = none) (hd : oi.dst = d)
    (he : (execOp a.eval oi).run P w = .ok (.value v) w') (h : wpAny P md ops Q fuel (listed.setIfInBounds i true) (a.put d v) w') : wpAny P md ops Q (fuel + 1) listed a w :=
  any_oper i hr hi hg fun K hK => by
    unfold Oper.wp
    rw [he]
    exact hK _ _ (by rw [hd]; exact h)
theorem wp_exec {o : Oper} {a : Act} {w w' : World} {K : Act → World → Prop} (d : Option Tmp) (hd : o.dst = d) (v : Value) (he : (execOp a.eval o).run P w = .ok (.value v) w') (h : K (a.put d v) w') : Oper.wp P o a w K Q := by
  subst hd
  unfold Oper.wp
  rw [he]
  exact h
theorem exec_mul {o : Oper} {a : Act} {w : World} (t t' : TypeId) (x y : Operand) (ho : o.op = .binOp .mul t x y t') (m n r : Int) (hx : a.eval x = .int .i64 m) (hy : a.eval y = .int .i64 n) (hr : IntKind.i64.wrap (m * n) = r) :
    (execOp a.eval o).run P w = .ok (.value (.int .i64 r)) w := by
  subst hr
  unfold execOp
  simp only [ho, hx, hy]
  simp [go_sem]
theorem exec_add {o : Oper} {a : Act} {w : World} (t t' : TypeId) (x y : Operand) (ho : o.op = .binOp .add t x y t') (m n r : Int) (hx : a.eval x = .int .i64 m) (hy : a.eval y = .int .i64 n) (hr : IntKind.i64.wrap (m + n) = r) :
    (execOp a.eval o).run P w = .ok (.value (.int .i64 r)) w := by
  subst hr
  unfold execOp
  simp only [ho, hx, hy]
  simp [go_sem]
/-- A call of a Go function by its contract, as one operation. -/
theorem wp_call {o : Oper} {a : Act} {w : World} {K : Act → World → Prop} (d : Option Tmp) (hd : o.dst = d) (f : Nat) (xs : Array Operand) (ts : Array TypeId) (ho : o.op = .call { callee := .value (.func f), args := xs, argTypes := ts }) (hcall : ∀ args w, (callFunc f args).run P w = .ok (.enter f args) w)
    (vs : Array Value) (hx : xs.map a.eval = vs) (post : Ending → World → Prop) (hc : Calls P f vs w post) (h : ∀ e w', post e w' → ∃ v, e = .returned v ∧ K (a.put d v) w') : Oper.wp P o a w K Q := by
  subst hx hd
  unfold Oper.wp execOp
  simp only [ho]
  simp [go_sem]
  rw [hcall, Oper.upon_enter]
  refine hc.mono fun e w' hp => ?_
  obtain ⟨v, rfl, hk⟩ := h e w' hp
  exact hk
theorem wp_call3 {o : Oper} {a : Act} {w : World} {K : Act → World → Prop} (d : Option Tmp) (hd : o.dst = d) (f : Nat) (x y z : Operand) (ts : Array TypeId) (ho : o.op = .call { callee := .value (.func f), args := #[x, y, z], argTypes := ts }) (hcall : ∀ args w, (callFunc f args).run P w = .ok (.enter f args) w)
    (v1 v2 v3 : Value) (hx : a.eval x = v1) (hy : a.eval y = v2) (hz : a.eval z = v3) (post : Ending → World → Prop) (hc : Calls P f #[v1, v2, v3] w post) (h : ∀ e w', post e w' → ∃ v, e = .returned v ∧ K (a.put d v) w') : Oper.wp P o a w K Q :=
  wp_call d hd f #[x, y, z] ts ho hcall #[v1, v2, v3] (by simp [hx, hy, hz]) post hc h
/-- A store of a whole array of bytes. -/
theorem wp_store_bytes {o : Oper} {a : Act} {w : World} {K : Act → World → Prop} (ty : TypeId) (x y : Operand) (ho : o.op = .store ty x y) (hdst : o.dst = none) (g : Nat) (hx : a.eval x = .pointer (some ⟨g, 0, none⟩)) (r : List Nat) (hy : a.eval y = .agg (u8s r))
    (t : TypeId) (l : List Nat) (hg : At w g (.cells (u8s l) t (0, 0))) (n : Nat) (hi : (P.info? ty).map (·.size) = some n) (hn : r.length = n) (hl : l.length = n)
    (h : ∀ w', Put w w' g (.cells (u8s r) t (0, 0)) → K a w') : Oper.wp P o a w K Q := by
  have hs := run_storeVar_part (P := P) w g 0 t ty (u8s l) (u8s r) hg (by rw [u8s_size, hn]; exact hi) (by rw [u8s_size, u8s_size]; omega) (u8s_one r)
  rw [splice_all (by rw [u8s_size, u8s_size]; omega)] at hs
  unfold Oper.wp execOp
  simp only [ho, hx, hy, Instr.storeAt, Instr.sureAddr, Sem.run_bind, Sem.run_pure, Result.andThen_ok, hs]
  simp only [Oper.upon, hdst, Act.put]
  exact h _ ⟨setRow_heap _ _ _ _ _ _ hg, fun h' hk => (setRow_other _ _ _ _ hk).trans h', fun hs => (setRow_size _ _ _).trans hs, fun hb hB => below_setRow' hb hB _⟩
theorem wp_call1 {o : Oper} {a : Act} {w : World} {K : Act → World → Prop} (d : Option Tmp) (hd : o.dst = d) (f : Nat) (x : Operand) (ts : Array TypeId) (ho : o.op = .call { callee := .value (.func f), args := #[x], argTypes := ts }) (hcall : ∀ args w, (callFunc f args).run P w = .ok (.enter f args) w)
    (v1 : Value) (hx : a.eval x = v1) (post : Ending → World → Prop) (hc : Calls P f #[v1] w post) (h : ∀ e w', post e w' → ∃ v, e = .returned v ∧ K (a.put d v) w') : Oper.wp P o a w K Q :=
  wp_call d hd f #[x] ts ho hcall #[v1] (by simp [hx]) post hc h
end
end Go.Proofs.Ytelicajipilhjaa
