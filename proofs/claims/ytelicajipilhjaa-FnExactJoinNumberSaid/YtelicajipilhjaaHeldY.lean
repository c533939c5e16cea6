/-
  Regions that draw their order, walked by hand, with two conditions on worlds: 'S' holds behind each operation; 'S2' holds until one of a list comes up, each of which waits for whatever is taken early by 'S2'. No function of the program is named here.
-/
import Derived.Test.YtelicajipilhjaaHeldZ
namespace Go.Proofs.Ytelicajipilhjaa
open Go.RowKit
section
variable {P : Program} {ops : Array Oper} {Q : Exit → Act → World → Prop} {md : Region.Mode} {S S2 : World → Prop} {zs : List Nat}
def wpAnyY (P : Program) (md : Region.Mode) (ops : Array Oper) (Q : Exit → Act → World → Prop) (S S2 : World → Prop) (zs : List Nat) : Nat → Array Bool → Act → World → Prop
  | 0, listed, a, w => Region.ready md ops listed = [] ∧ Q .normal a w
  | fuel + 1, listed, a, w =>
    (Region.ready md ops listed = [] → Q .normal a w) ∧
    ∀ i ∈ Region.ready md ops listed, wpOp P ops Q i (fun a' w' => S w' ∧ (i ∉ zs → S2 w → S2 w') ∧ wpAnyY P md ops Q S S2 zs fuel (listed.setIfInBounds i true) a' w') a w
theorem wpAny_of_y : ∀ (fuel : Nat) (listed : Array Bool) (a : Act) (w : World), wpAnyY P md ops Q S S2 zs fuel listed a w → wpAny P md ops Q fuel listed a w
  | 0, _, _, _, h => h
  | fuel + 1, _, _, _, h => by
    refine ⟨h.1, fun i hi => wpOp_mono ?_ (h.2 i hi)⟩
    intro a' w' h'
    exact wpAny_of_y fuel _ a' w' h'.2.2
theorem wpAnyY_early {i : Nat} {oi : Oper} {v : Value} (hi : ops[i]? = some oi) (hz : ∀ z ∈ zs, i ∈ waits md ops z) (hs : Region.noSelect ops = true) (hQ : ∀ c a w, Q (.panic c) (a.put oi.dst v) w → Q (.panic c) a w) :
    ∀ (fuel : Nat) (listed : Array Bool) (a : Act) (w : World),
      (∀ j oj, ops[j]? = some oj → j ≠ i → listed.getD j true = false → (∀ e ∈ oj.after, Region.binds md e = true → e.on ≠ i) → oi.apart ops oj = true) →
      i ∈ Region.ready md ops listed → YieldsIf P ops (fun w => S w ∧ S2 w) oi v a → S w → S2 w → wpAnyY P md ops Q S S2 zs fuel (listed.setIfInBounds i true) (a.put oi.dst v) w → wpAnyY P md ops Q S S2 zs (fuel + 1) listed a w := by
  intro fuel
  induction fuel with
  | zero =>
    intro listed a w _ hr hy hS hS2 H
    constructor
    · intro h0
      rw [h0] at hr
      cases hr
    · intro j hj
      rcases Nat.decEq j i with hne | rfl
      · have h1 := ready_mono hj hne
        rw [H.1] at h1
        cases h1
      · exact hy.wpOp hi ⟨hS, hS2⟩ ⟨hS, fun _ _ => hS2, H⟩
  | succ fuel ih =>
    intro listed a w hap hr hy hS hS2 H
    constructor
    · intro h0
      rw [h0] at hr
      cases hr
    · intro j hj
      rcases Nat.decEq j i with hne | rfl
      · have hun : listed.getD i false = false := by
          have h0 := (mem_ready.1 hr).1
          exact getD_both h0
        have hjz : j ∉ zs := fun e => not_ready_before (hz j e) hun hj
        obtain ⟨hju, oj, hoj, hwj⟩ := mem_ready.1 hj
        have hno : ∀ e ∈ oj.after, Region.binds md e = true → e.on ≠ i := fun e he hb heq => by
          have h1 := hwj e he hb
          rw [heq, hun] at h1
          cases h1
        have hstep := wpOp_putIf hoj (hap j oj hoj hne hju hno) (fun cs b => Region.noSelect_spec hs i oi cs b hi) (fun cs b => Region.noSelect_spec hs j oj cs b hoj) hQ hy (H.2 j (ready_mono hj hne))
        refine wpOp_mono ?_ hstep
        rintro a' w' ⟨hy', hS', h2', hrest⟩
        refine ⟨hS', h2', ih (listed.setIfInBounds j true) a' w' ?_ (ready_mono hr (Ne.symm hne)) hy' hS' (h2' hjz hS2) ?_⟩
        · intro k ok hk hki hku hkn
          refine hap k ok hk hki ?_ hkn
          by_cases hjk : j = k
          · subst hjk
            exact hju
          · rwa [getD_set_ne true hjk] at hku
        · rw [Array.setIfInBounds_comm _ _ hne]
          exact hrest
      · exact hy.wpOp hi ⟨hS, hS2⟩ ⟨hS, fun _ _ => hS2, H⟩
theorem wpAnyY_free {i : Nat} {oi : Oper} {v : Value} (hi : ops[i]? = some oi) (hs : Region.noSelect ops = true) (hQ : ∀ c a w, Q (.panic c) (a.put oi.dst v) w → Q (.panic c) a w) :
    ∀ (fuel : Nat) (listed : Array Bool) (a : Act) (w : World),
      (∀ j oj, ops[j]? = some oj → j ≠ i → listed.getD j true = false → (∀ e ∈ oj.after, Region.binds md e = true → e.on ≠ i) → oi.apart ops oj = true) →
      i ∈ Region.ready md ops listed → YieldsIf P ops S oi v a → S w → wpAnyY P md ops Q S S2 zs fuel (listed.setIfInBounds i true) (a.put oi.dst v) w → wpAnyY P md ops Q S S2 zs (fuel + 1) listed a w := by
  intro fuel
  induction fuel with
  | zero =>
    intro listed a w _ hr hy hS H
    constructor
    · intro h0
      rw [h0] at hr
      cases hr
    · intro j hj
      rcases Nat.decEq j i with hne | rfl
      · have h1 := ready_mono hj hne
        rw [H.1] at h1
        cases h1
      · exact hy.wpOp hi hS ⟨hS, fun _ h => h, H⟩
  | succ fuel ih =>
    intro listed a w hap hr hy hS H
    constructor
    · intro h0
      rw [h0] at hr
      cases hr
    · intro j hj
      rcases Nat.decEq j i with hne | rfl
      · have hun : listed.getD i false = false := by
          have h0 := (mem_ready.1 hr).1
          exact getD_both h0
        obtain ⟨hju, oj, hoj, hwj⟩ := mem_ready.1 hj
        have hno : ∀ e ∈ oj.after, Region.binds md e = true → e.on ≠ i := fun e he hb heq => by
          have h1 := hwj e he hb
          rw [heq, hun] at h1
          cases h1
        have hstep := wpOp_putIf hoj (hap j oj hoj hne hju hno) (fun cs b => Region.noSelect_spec hs i oi cs b hi) (fun cs b => Region.noSelect_spec hs j oj cs b hoj) hQ hy (H.2 j (ready_mono hj hne))
        refine wpOp_mono ?_ hstep
        rintro a' w' ⟨hy', hS', h2', hrest⟩
        refine ⟨hS', h2', ih (listed.setIfInBounds j true) a' w' ?_ (ready_mono hr (Ne.symm hne)) hy' hS' ?_⟩
        · intro k ok hk hki hku hkn
          refine hap k ok hk hki ?_ hkn
          by_cases hjk : j = k
          · subst hjk
            exact hju
          · rwa [getD_set_ne true hjk] at hku
        · rw [Array.setIfInBounds_comm _ _ hne]
          exact hrest
      · exact hy.wpOp hi hS ⟨hS, fun _ h => h, H⟩
section
variable {fuel : Nat} {listed : Array Bool} {a : Act} {w : World}
theorem y_yield2 (i : Nat) {oi : Oper} (d : Option Tmp) (v : Value) (hi : ops[i]? = some oi) (hz : (zs.all fun z => (waits md ops z).contains i) = true)
    (hs : Region.noSelect ops = true) (hf : Region.free md ops listed i = true) (hr : (Region.ready md ops listed).contains i = true)
    (hQ : ∀ c a w, Q (.panic c) (a.put oi.dst v) w → Q (.panic c) a w) (hw : Region.wanted oi (yielded ops a.tmps) = true) (hd : oi.dst = d) (hS : S w) (hS2 : S2 w) (he : ∀ w', S w' → S2 w' → (execOp a.eval oi).run P w' = .ok (.value v) w')
    (h : wpAnyY P md ops Q S S2 zs fuel (listed.setIfInBounds i true) (a.put d v) w) : wpAnyY P md ops Q S S2 zs (fuel + 1) listed a w :=
  wpAnyY_early hi (fun z hm => by have := List.all_eq_true.1 hz z hm; simpa using this) hs hQ fuel listed a w (Region.free_spec hi hf) (by simpa using hr) (.inl ⟨hw, fun w' h' => he w' h'.1 h'.2⟩) hS hS2 (by rw [hd]; exact h)
theorem y_yield (i : Nat) {oi : Oper} (d : Option Tmp) (v : Value) (hi : ops[i]? = some oi)
    (hs : Region.noSelect ops = true) (hf : Region.free md ops listed i = true) (hr : (Region.ready md ops listed).contains i = true)
    (hQ : ∀ c a w, Q (.panic c) (a.put oi.dst v) w → Q (.panic c) a w) (hw : Region.wanted oi (yielded ops a.tmps) = true) (hd : oi.dst = d) (hS : S w) (he : ∀ w', S w' → (execOp a.eval oi).run P w' = .ok (.value v) w')
    (h : wpAnyY P md ops Q S S2 zs fuel (listed.setIfInBounds i true) (a.put d v) w) : wpAnyY P md ops Q S S2 zs (fuel + 1) listed a w :=
  wpAnyY_free hi hs hQ fuel listed a w (Region.free_spec hi hf) (by simpa using hr) (.inl ⟨hw, he⟩) hS (by rw [hd]; exact h)
theorem y_skip (i : Nat) {oi : Oper} (d : Option Tmp) (hi : ops[i]? = some oi)
    (hs : Region.noSelect ops = true) (hf : Region.free md ops listed i = true) (hr : (Region.ready md ops listed).contains i = true)
    (hQ : ∀ c a w, Q (.panic c) (a.put oi.dst undef) w → Q (.panic c) a w) (hw : Region.wanted oi (yielded ops a.tmps) = false) (hd : oi.dst = d) (hS : S w)
    (h : wpAnyY P md ops Q S S2 zs fuel (listed.setIfInBounds i true) (a.put d undef) w) : wpAnyY P md ops Q S S2 zs (fuel + 1) listed a w :=
  wpAnyY_free hi hs hQ fuel listed a w (Region.free_spec hi hf) (by simpa using hr) (.inr ⟨hw, rfl⟩) hS (by rw [hd]; exact h)
theorem y_one {i : Nat} {oi : Oper} (hi : ops[i]? = some oi) (hw : Region.wanted oi (yielded ops a.tmps) = true)
    (h : ∀ K : Act → World → Prop, (∀ a' w', S w' → (i ∉ zs → S2 w') → wpAnyY P md ops Q S S2 zs fuel (listed.setIfInBounds i true) a' w' → K a' w') → Oper.wp P oi a w K Q) :
    wpOp P ops Q i (fun a' w' => S w' ∧ (i ∉ zs → S2 w → S2 w') ∧ wpAnyY P md ops Q S S2 zs fuel (listed.setIfInBounds i true) a' w') a w := by
  refine wpOp_step hi fun K hK => ?_
  rw [if_pos hw]
  exact h K fun a' w' hS hS2 hW => hK a' w' ⟨hS, fun h9 _ => hS2 h9, hW⟩
theorem y_oper (i : Nat) {oi : Oper} (hr : Region.ready md ops listed = [i]) (hi : ops[i]? = some oi) (hw : Region.wanted oi (yielded ops a.tmps) = true)
    (h : ∀ K : Act → World → Prop, (∀ a' w', S w' → (i ∉ zs → S2 w') → wpAnyY P md ops Q S S2 zs fuel (listed.setIfInBounds i true) a' w' → K a' w') → Oper.wp P oi a w K Q) : wpAnyY P md ops Q S S2 zs (fuel + 1) listed a w :=
  ⟨fun h0 => (by rw [hr] at h0; cases h0), (by
    rw [hr]
    intro j hj
    obtain rfl : j = i := by simpa using hj
    exact y_one hi hw h)⟩
theorem y_pass (i : Nat) {oi : Oper} (d : Option Tmp) (hr : Region.ready md ops listed = [i]) (hi : ops[i]? = some oi) (hw : Region.wanted oi (yielded ops a.tmps) = false) (hd : oi.dst = d) (hS : S w)
    (h : wpAnyY P md ops Q S S2 zs fuel (listed.setIfInBounds i true) (a.put d undef) w) : wpAnyY P md ops Q S S2 zs (fuel + 1) listed a w :=
  ⟨fun h0 => (by rw [hr] at h0; cases h0), (by
    rw [hr]
    intro j hj
    obtain rfl : j = i := by simpa using hj
    refine wpOp_step hi fun K hK => ?_
    rw [if_neg (by simp [hw]), hd]
    exact hK _ _ ⟨hS, fun _ h => h, h⟩)⟩
theorem y_two (i j : Nat) {oi oj : Oper} (hr : Region.ready md ops listed = [i, j]) (hi : ops[i]? = some oi) (hj : ops[j]? = some oj) (hw : Region.wanted oi (yielded ops a.tmps) = true) (hw' : Region.wanted oj (yielded ops a.tmps) = true)
    (h : ∀ K : Act → World → Prop, (∀ a' w', S w' → (i ∉ zs → S2 w') → wpAnyY P md ops Q S S2 zs fuel (listed.setIfInBounds i true) a' w' → K a' w') → Oper.wp P oi a w K Q)
    (h' : ∀ K : Act → World → Prop, (∀ a' w', S w' → (j ∉ zs → S2 w') → wpAnyY P md ops Q S S2 zs fuel (listed.setIfInBounds j true) a' w' → K a' w') → Oper.wp P oj a w K Q) : wpAnyY P md ops Q S S2 zs (fuel + 1) listed a w :=
  ⟨fun h0 => (by rw [hr] at h0; cases h0), (by
    rw [hr]
    intro x hx
    have hx' : x = i ∨ x = j := by simpa using hx
    rcases hx' with rfl | rfl
    · exact y_one hi hw h
    · exact y_one hj hw' h')⟩
theorem y_three (i j k : Nat) {oi oj ok : Oper} (hr : Region.ready md ops listed = [i, j, k]) (hi : ops[i]? = some oi) (hj : ops[j]? = some oj) (hk : ops[k]? = some ok) (hw : Region.wanted oi (yielded ops a.tmps) = true) (hw' : Region.wanted oj (yielded ops a.tmps) = true) (hw'' : Region.wanted ok (yielded ops a.tmps) = true)
    (h : ∀ K : Act → World → Prop, (∀ a' w', S w' → (i ∉ zs → S2 w') → wpAnyY P md ops Q S S2 zs fuel (listed.setIfInBounds i true) a' w' → K a' w') → Oper.wp P oi a w K Q)
    (h' : ∀ K : Act → World → Prop, (∀ a' w', S w' → (j ∉ zs → S2 w') → wpAnyY P md ops Q S S2 zs fuel (listed.setIfInBounds j true) a' w' → K a' w') → Oper.wp P oj a w K Q)
    (h'' : ∀ K : Act → World → Prop, (∀ a' w', S w' → (k ∉ zs → S2 w') → wpAnyY P md ops Q S S2 zs fuel (listed.setIfInBounds k true) a' w' → K a' w') → Oper.wp P ok a w K Q) : wpAnyY P md ops Q S S2 zs (fuel + 1) listed a w :=
  ⟨fun h0 => (by rw [hr] at h0; cases h0), (by
    rw [hr]
    intro x hx
    have hx' : x = i ∨ x = j ∨ x = k := by simpa using hx
    rcases hx' with rfl | rfl | rfl
    · exact y_one hi hw h
    · exact y_one hj hw' h'
    · exact y_one hk hw'' h'')⟩
theorem y_exec (i : Nat) {oi : Oper} (d : Option Tmp) (v : Value) {w' : World} (hr : Region.ready md ops listed = [i]) (hi : ops[i]? = some oi) (hw : Region.wanted oi (yielded ops a.tmps) = true) (hd : oi.dst = d)
    (he : (execOp a.eval oi).run P w = .ok (.value v) w') (hS : S w') (hS2 : i ∉ zs → S2 w') (h : wpAnyY P md ops Q S S2 zs fuel (listed.setIfInBounds i true) (a.put d v) w') : wpAnyY P md ops Q S S2 zs (fuel + 1) listed a w :=
  y_oper i hr hi hw fun K hK => by
    unfold Oper.wp
    rw [he]
    exact hK _ _ hS hS2 (by rw [hd]; exact h)
theorem y_done (hr : Region.ready md ops listed = []) (h : Q .normal a w) : ∀ fuel, wpAnyY P md ops Q S S2 zs fuel listed a w
  | 0 => ⟨hr, h⟩
  | _ + 1 => ⟨fun _ => h, by rw [hr]; simp⟩
end
theorem wp_region_y {id : Nat} {a : Act} {w : World} (hm : P.follows .mixedOrders = true)
    (h : wpAnyY P .any ops Q S S2 zs ops.size (Array.replicate ops.size false) a w.drew) : (Code.region id ops true).wp P Q a w :=
  wp_region_any hm (wpAny_of_y _ _ _ _ h)
end
end Go.Proofs.Ytelicajipilhjaa
