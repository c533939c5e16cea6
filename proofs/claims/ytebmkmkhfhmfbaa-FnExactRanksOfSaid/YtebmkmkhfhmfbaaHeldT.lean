/-
  Regions that draw their order: what is read early by 'S2' may come before the operations that end 'S2' by several edges. No function of the program is named here.
-/
import Derived.Test.YtebmkmkhfhmfbaaHeld
namespace Go.Proofs.Ytebmkmkhfhmfbaa
open Go.RowKit
section
variable {P : Program} {ops : Array Oper} {Q : Exit → Act → World → Prop} {md : Region.Mode} {S S2 : World → Prop} {zs : List Nat}
/-- 'i' comes before 'z' by at most so many edges. -/
def before (md : Region.Mode) (ops : Array Oper) : Nat → Nat → Nat → Bool
  | 0, _, _ => false
  | n + 1, z, i => (waits md ops z).any fun y => y == i || before md ops n y i
/-- What is listed has all that it waits for listed. -/
def Closed (md : Region.Mode) (ops : Array Oper) (listed : Array Bool) : Prop := ∀ j, listed.getD j false = true → ∀ y ∈ waits md ops j, listed.getD y false = true
def closedB (md : Region.Mode) (ops : Array Oper) (listed : Array Bool) : Bool := (List.range ops.size).all fun j => !(listed.getD j false) || (waits md ops j).all fun y => listed.getD y false
theorem closed_of {listed : Array Bool} (h : closedB md ops listed = true) : Closed md ops listed := fun j hj y hy => by
  by_cases hlt : j < ops.size
  · have h1 := List.all_eq_true.1 h j (List.mem_range.2 hlt)
    rw [hj] at h1
    simp only [Bool.not_true, Bool.false_or, List.all_eq_true] at h1
    exact h1 y hy
  · exfalso
    unfold waits at hy
    rw [Array.getElem?_eq_none (by omega)] at hy
    cases hy
theorem ready_waits {listed : Array Bool} {j : Nat} (hj : j ∈ Region.ready md ops listed) : ∀ y ∈ waits md ops j, listed.getD y false = true := fun y hy => by
  obtain ⟨_, o, ho, hw⟩ := mem_ready.1 hj
  obtain ⟨e, he, hb, rfl⟩ := (mem_waits ho).1 hy
  exact hw e he hb
theorem getD_put {listed : Array Bool} {j y : Nat} (h : listed.getD y false = true) : (listed.setIfInBounds j true).getD y false = true := by
  simp only [Array.getD_eq_getD_getElem?] at h ⊢
  rw [Array.getElem?_setIfInBounds]
  split
  · split
    · rfl
    · rename_i h1 h2
      subst h1
      rw [Array.getElem?_eq_none (by omega)] at h
      cases h
  · exact h
theorem Closed.put {listed : Array Bool} {j : Nat} (h : Closed md ops listed) (hj : j ∈ Region.ready md ops listed) : Closed md ops (listed.setIfInBounds j true) := fun k hk y hy => by
  by_cases e : k = j
  · subst e; exact getD_put (ready_waits hj y hy)
  · refine getD_put (h k ?_ y hy)
    simp only [Array.getD_eq_getD_getElem?] at hk ⊢
    rwa [Array.getElem?_setIfInBounds, if_neg (Ne.symm e)] at hk
theorem before_listed {listed : Array Bool} (hc : Closed md ops listed) : ∀ (n z i : Nat), (∀ y ∈ waits md ops z, listed.getD y false = true) → before md ops n z i = true → listed.getD i false = true := by
  intro n
  induction n with
  | zero => intro z i _ h; cases h
  | succ n ih =>
    intro z i hz h
    simp only [before, List.any_eq_true, Bool.or_eq_true, beq_iff_eq] at h
    obtain ⟨y, hy, h1⟩ := h
    rcases h1 with rfl | h1
    · exact hz y hy
    · exact ih y i (fun x hx => hc y (hz y hy) x hx) h1
theorem wpAnyY_early3 {i N : Nat} {oi : Oper} {v : Value} (hi : ops[i]? = some oi) (hz : ∀ z ∈ zs, before md ops N z i = true) (hs : Region.noSelect ops = true) (hQ : ∀ c a w, Q (.panic c) (a.put oi.dst v) w → Q (.panic c) a w) :
    ∀ (fuel : Nat) (listed : Array Bool) (a : Act) (w : World),
      (∀ j oj, ops[j]? = some oj → j ≠ i → listed.getD j true = false → (∀ e ∈ oj.after, Region.binds md e = true → e.on ≠ i) → oi.apart ops oj = true) → Closed md ops listed →
      i ∈ Region.ready md ops listed → YieldsIf P ops (fun w => S w ∧ S2 w) oi v a → S w → S2 w → wpAnyY P md ops Q S S2 zs fuel (listed.setIfInBounds i true) (a.put oi.dst v) w → wpAnyY P md ops Q S S2 zs (fuel + 1) listed a w := by
  intro fuel
  induction fuel with
  | zero =>
    intro listed a w _ _ hr hy hS hS2 H
    constructor
    · intro h0
      rw [h0] at hr
      cases hr
    · intro j hj
      rcases Nat.decEq j i with hne | rfl
      · have h1 := ready_mono hj hne
        rw [H.1] at h1
        cases h1
      · exact hy.wpOp hi ⟨hS, hS2⟩ ⟨hS, fun _ _ => hS2, H⟩
  | succ fuel ih =>
    intro listed a w hap hcl hr hy hS hS2 H
    constructor
    · intro h0
      rw [h0] at hr
      cases hr
    · intro j hj
      rcases Nat.decEq j i with hne | rfl
      · have hun : listed.getD i false = false := by
          have h0 := (mem_ready.1 hr).1
          exact getD_both h0
        have hjz : j ∉ zs := fun e => by
          have h9 := before_listed hcl N j i (ready_waits hj) (hz j e)
          rw [hun] at h9
          cases h9
        obtain ⟨hju, oj, hoj, hwj⟩ := mem_ready.1 hj
        have hno : ∀ e ∈ oj.after, Region.binds md e = true → e.on ≠ i := fun e he hb heq => by
          have h1 := hwj e he hb
          rw [heq, hun] at h1
          cases h1
        have hstep := wpOp_putIf hoj (hap j oj hoj hne hju hno) (fun cs b => Region.noSelect_spec hs i oi cs b hi) (fun cs b => Region.noSelect_spec hs j oj cs b hoj) hQ hy (H.2 j (ready_mono hj hne))
        refine wpOp_mono ?_ hstep
        rintro a' w' ⟨hy', hS', h2', hrest⟩
        refine ⟨hS', h2', ih (listed.setIfInBounds j true) a' w' ?_ (hcl.put hj) (ready_mono hr (Ne.symm hne)) hy' hS' (h2' hjz hS2) ?_⟩
        · intro k ok hk hki hku hkn
          refine hap k ok hk hki ?_ hkn
          by_cases hjk : j = k
          · subst hjk
            exact hju
          · rwa [getD_set_ne true hjk] at hku
        · rw [Array.setIfInBounds_comm _ _ hne]
          exact hrest
      · exact hy.wpOp hi ⟨hS, hS2⟩ ⟨hS, fun _ _ => hS2, H⟩
theorem y_yield3 {fuel : Nat} {listed : Array Bool} {a : Act} {w : World} (i : Nat) {oi : Oper} (d : Option Tmp) (v : Value) (hi : ops[i]? = some oi) (N : Nat) (hz : (zs.all fun z => before md ops N z i) = true) (hcl : closedB md ops listed = true)
    (hs : Region.noSelect ops = true) (hf : Region.free md ops listed i = true) (hr : (Region.ready md ops listed).contains i = true)
    (hQ : ∀ c a w, Q (.panic c) (a.put oi.dst v) w → Q (.panic c) a w) (hw : Region.wanted oi (yielded ops a.tmps) = true) (hd : oi.dst = d) (hS : S w) (hS2 : S2 w) (he : ∀ w', S w' → S2 w' → (execOp a.eval oi).run P w' = .ok (.value v) w')
    (h : wpAnyY P md ops Q S S2 zs fuel (listed.setIfInBounds i true) (a.put d v) w) : wpAnyY P md ops Q S S2 zs (fuel + 1) listed a w :=
  wpAnyY_early3 hi (fun z hm => List.all_eq_true.1 hz z hm) hs hQ fuel listed a w (Region.free_spec hi hf) (closed_of hcl) (by simpa using hr) (.inl ⟨hw, fun w' h' => he w' h'.1 h'.2⟩) hS hS2 (by rw [hd]; exact h)
end
end Go.Proofs.Ytebmkmkhfhmfbaa
