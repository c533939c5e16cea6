/-
  A region that draws its order, of loads, calls, allocations and stores into what it allocates: each operation is run once. No function of the program is named here.
-/
import Derived.Test.YtcfgpjkdonidgaaHeld
import Derived.Test.YtcfgpjkdonidgaaLK1
namespace Go.Proofs.Ytcfgpjkdonidgaa
open Go.RowKit
section
variable {P : Program} {ops : Array Oper} {Q : Exit → Act → World → Prop} {md : Region.Mode}
/-- A condition on worlds that more memory, and stores into newer blocks, keep. -/
structure BC (B : World → Prop) (lo : Nat) : Prop where
  below : ∀ {w w'}, B w → Below w.heap.size w w' → B w'
  put : ∀ {w w' g o}, B w → lo ≤ g → Put w w' g o → B w'
  size : ∀ {w}, B w → lo ≤ w.heap.size
/-- What is known behind the operations of which 'L' tells: 'val' has the values of those that yield the same in each order, 'al' the allocations: the operation that stores into the block, the block before, the block behind it. -/
structure RI (B : World → Prop) (lo : Nat) (val : Nat → Option Value) (al : Nat → Option (Nat × Obj × Obj)) (L : Nat → Bool) (vals : Nat → Value) (w : World) : Prop where
  base : B w
  val_ : ∀ i v, L i = true → val i = some v → vals i = v
  blk : ∀ i s z f, L i = true → al i = some (s, z, f) → ∃ b, vals i = .pointer (some ⟨b, 0, none⟩) ∧ lo ≤ b ∧ At w b (if L s then f else z)
  dis : ∀ i j s z f s' z' f', i ≠ j → L i = true → L j = true → al i = some (s, z, f) → al j = some (s', z', f') → vals i ≠ vals j
variable {B : World → Prop} {lo : Nat} {val : Nat → Option Value} {al : Nat → Option (Nat × Obj × Obj)} {L : Nat → Bool} {vals : Nat → Value} {w w' : World}
theorem upL_ne {i j : Nat} (h : j ≠ i) : upL L i j = L j := by simp [upL, h]
theorem upV_ne {i j : Nat} {v : Value} (h : j ≠ i) : upV vals i v j = vals j := by simp [upV, h]
theorem upL_same {i : Nat} : upL L i i = true := by simp [upL]
theorem upV_same {i : Nat} {v : Value} : upV vals i v i = v := by simp [upV]
def notStore (al : Nat → Option (Nat × Obj × Obj)) (i : Nat) : Prop := ∀ j s z f, al j = some (s, z, f) → s ≠ i
/-- Behind an operation that yields 'v' and lays at most more memory. -/
theorem RI.more (hB : BC B lo) (h : RI B lo val al L vals w) {i : Nat} {v : Value} (hn : L i = false) (hv : ∀ u, val i = some u → u = v) (ha : al i = none) (hs : notStore al i) (hb : Below w.heap.size w w') : RI B lo val al (upL L i) (upV vals i v) w' where
  base := hB.below h.base hb
  val_ j u hL hj := by
    by_cases e : j = i
    · subst e; rw [upV_same]; exact (hv u hj).symm
    · rw [upL_ne e] at hL; rw [upV_ne e]; exact h.val_ j u hL hj
  blk j s z f hL hj := by
    have e : j ≠ i := fun e => by rw [e, ha] at hj; cases hj
    rw [upL_ne e] at hL
    obtain ⟨b, e1, e2, e3⟩ := h.blk j s z f hL hj
    exact ⟨b, by rw [upV_ne e]; exact e1, e2, by rw [upL_ne (hs j s z f hj)]; exact e3.after hb⟩
  dis j k s z f s' z' f' hne hj hk aj ak := by
    have e : j ≠ i := fun e => by rw [e, ha] at aj; cases aj
    have e' : k ≠ i := fun e => by rw [e, ha] at ak; cases ak
    rw [upL_ne e] at hj; rw [upL_ne e'] at hk
    rw [upV_ne e, upV_ne e']
    exact h.dis j k s z f s' z' f' hne hj hk aj ak
/-- Behind an allocation. -/
theorem RI.alloc (hB : BC B lo) (h : RI B lo val al L vals w) {i s : Nat} {z f : Obj} (hn : L i = false) (hns : L s = false) (hv : val i = none) (ha : al i = some (s, z, f)) (hsi : s ≠ i) (hs : notStore al i) (hN : New w w' z) : RI B lo val al (upL L i) (upV vals i (.pointer (some ⟨w.heap.size, 0, none⟩))) w' where
  base := hB.below h.base (hN.below (Below.refl _ _) (Nat.le_refl _))
  val_ j u hL hj := by
    have e : j ≠ i := fun e => by rw [e, hv] at hj; cases hj
    rw [upL_ne e] at hL; rw [upV_ne e]; exact h.val_ j u hL hj
  blk j s' z' f' hL hj := by
    by_cases e : j = i
    · subst e
      rw [ha] at hj
      simp only [Option.some.injEq, Prod.mk.injEq] at hj
      obtain ⟨rfl, rfl, rfl⟩ := hj
      refine ⟨w.heap.size, by rw [upV_same], hB.size h.base, ?_⟩
      rw [upL_ne hsi, hns]
      exact hN.at_
    · rw [upL_ne e] at hL
      obtain ⟨b, e1, e2, e3⟩ := h.blk j s' z' f' hL hj
      exact ⟨b, by rw [upV_ne e]; exact e1, e2, by rw [upL_ne (hs j s' z' f' hj)]; exact hN.old e3⟩
  dis j k s1 z1 f1 s2 z2 f2 hne hj hk aj ak := by
    have key : ∀ k s2 z2 f2, k ≠ i → L k = true → al k = some (s2, z2, f2) → vals k ≠ .pointer (some ⟨w.heap.size, 0, none⟩) := fun k s2 z2 f2 _ hk ak hc => by
      obtain ⟨b, e1, _, e3⟩ := h.blk k s2 z2 f2 hk ak
      rw [e1] at hc
      simp only [Value.pointer.injEq, Option.some.injEq, Addr.mk.injEq] at hc
      have := e3.lt
      omega
    by_cases e : j = i
    · have e' : k ≠ i := fun e' => hne (e.trans e'.symm)
      subst e
      rw [upL_ne e'] at hk
      rw [upV_same, upV_ne e']
      exact (key k s2 z2 f2 e' hk ak).symm
    · rw [upL_ne e] at hj
      rw [upV_ne e]
      by_cases e' : k = i
      · subst e'
        rw [upV_same]
        exact key j s1 z1 f1 e hj aj
      · rw [upL_ne e'] at hk
        rw [upV_ne e']
        exact h.dis j k s1 z1 f1 s2 z2 f2 hne hj hk aj ak
/-- Behind the store into what an allocation of the region has laid. -/
theorem RI.put (hB : BC B lo) (h : RI B lo val al L vals w) {i s b : Nat} {z f : Obj} {v : Value} (hi : L i = true) (ha : al i = some (s, z, f)) (hb : vals i = .pointer (some ⟨b, 0, none⟩)) (hlo : lo ≤ b) (hv : val s = none) (has : al s = none)
    (huniq : ∀ j s' z' f', al j = some (s', z', f') → s' = s → j = i) (hP : Put w w' b f) : RI B lo val al (upL L s) (upV vals s v) w' where
  base := hB.put h.base hlo hP
  val_ j u hL hj := by
    have e : j ≠ s := fun e => by rw [e, hv] at hj; cases hj
    rw [upL_ne e] at hL; rw [upV_ne e]; exact h.val_ j u hL hj
  blk j s' z' f' hL hj := by
    have e : j ≠ s := fun e => by rw [e, has] at hj; cases hj
    rw [upL_ne e] at hL
    by_cases ej : j = i
    · subst ej
      rw [ha] at hj
      simp only [Option.some.injEq, Prod.mk.injEq] at hj
      obtain ⟨rfl, rfl, rfl⟩ := hj
      exact ⟨b, by rw [upV_ne e]; exact hb, hlo, by rw [upL_same]; exact hP.at_⟩
    · obtain ⟨b', e1, e2, e3⟩ := h.blk j s' z' f' hL hj
      have hne : b' ≠ b := fun eb => h.dis j i s' z' f' s z f ej hL hi hj ha (by rw [e1, hb, eb])
      have es : s' ≠ s := fun es => ej (huniq j s' z' f' hj es)
      exact ⟨b', by rw [upV_ne e]; exact e1, e2, by rw [upL_ne es]; exact hP.other e3 hne⟩
  dis j k s1 z1 f1 s2 z2 f2 hne hj hk aj ak := by
    have e : j ≠ s := fun e => by rw [e, has] at aj; cases aj
    have e' : k ≠ s := fun e => by rw [e, has] at ak; cases ak
    rw [upL_ne e] at hj; rw [upL_ne e'] at hk
    rw [upV_ne e, upV_ne e']
    exact h.dis j k s1 z1 f1 s2 z2 f2 hne hj hk aj ak
theorem RI.start (h : B w) : RI B lo val al (fun _ => false) (fun _ => undef) w where
  base := h
  val_ _ _ h := by cases h
  blk _ _ _ _ h := by cases h
  dis _ _ _ _ _ _ _ _ _ h := by cases h
variable {a0 : Act}
/-- An operation that yields 'v' wherever the condition holds. -/
theorem step_pure (hB : BC B lo) (i : Nat) (oi : Oper) (hi : ops[i]? = some oi) (hg : oi.guard = none) (js : List Nat) (hw : waits md ops i = js) (d : Option Tmp) (_hd : oi.dst = d) (v : Value) (hv : val i = some v) (ha : al i = none) (hs : notStore al i)
    (h : ∀ L vals w, (∀ j, j ∈ js → L j = true) → RI B lo val al L vals w → (execOp (putAll ops L vals a0 ops.size).eval oi).run P w = .ok (.value v) w) : StepOK P md ops Q a0 (RI B lo val al) i :=
  step_at i oi hi hg js hw fun L vals w _ hn hd' hI => by
    unfold Oper.wp
    rw [h L vals w hd' hI]
    exact ⟨v, rfl, hI.more hB hn (fun u hu => by rw [hv] at hu; cases hu; rfl) ha hs (Below.refl _ _)⟩
theorem step_call (hB : BC B lo) (i : Nat) (oi : Oper) (hi : ops[i]? = some oi) (hg : oi.guard = none) (js : List Nat) (hw : waits md ops i = js) (v : Value) (hv : val i = some v) (ha : al i = none) (hs : notStore al i)
    (h : ∀ L vals w (K : Act → World → Prop), (∀ j, j ∈ js → L j = true) → RI B lo val al L vals w → (∀ w', Below w.heap.size w w' → K ((putAll ops L vals a0 ops.size).put oi.dst v) w') → Oper.wp P oi (putAll ops L vals a0 ops.size) w K Q) : StepOK P md ops Q a0 (RI B lo val al) i :=
  step_at i oi hi hg js hw fun L vals w _ hn hd' hI =>
    h L vals w _ hd' hI fun w' hb => ⟨v, rfl, hI.more hB hn (fun u hu => by rw [hv] at hu; cases hu; rfl) ha hs hb⟩
theorem step_alloc (hB : BC B lo) (i : Nat) (oi : Oper) (hi : ops[i]? = some oi) (hg : oi.guard = none) (js : List Nat) (hw : waits md ops i = js) (s : Nat) (z f : Obj) (hv : val i = none) (ha : al i = some (s, z, f)) (hsi : s ≠ i) (hsw : (waits md ops s).contains i = true) (hs : notStore al i)
    (h : ∀ (a : Act) (w : World), (execOp a.eval oi).run P w = .ok (.value (.pointer (some ⟨w.heap.size, 0, none⟩))) (w.alloc z)) : StepOK P md ops Q a0 (RI B lo val al) i :=
  step_at i oi hi hg js hw fun L vals w hc hn hd' hI => by
    have hns : L s = false := by
      cases hL : L s with
      | false => rfl
      | true =>
        have := hc s hL i (by simpa using hsw)
        rw [hn] at this
        cases this
    unfold Oper.wp
    rw [h _ w]
    exact ⟨_, rfl, hI.alloc hB hn hns hv ha hsi hs (New.alloc _ _)⟩
theorem step_store (hB : BC B lo) (s : Nat) (os : Oper) (hi : ops[s]? = some os) (hg : os.guard = none) (js : List Nat) (hw : waits md ops s = js) (hd0 : os.dst = none) (i : Nat) (hij : i ∈ js) (z f : Obj) (hv : val s = none) (ha : al i = some (s, z, f)) (has : al s = none)
    (huniq : ∀ j s' z' f', al j = some (s', z', f') → s' = s → j = i)
    (h : ∀ L vals w b (K : Act → World → Prop), (∀ j, j ∈ js → L j = true) → RI B lo val al L vals w → vals i = .pointer (some ⟨b, 0, none⟩) → At w b z → (∀ w', Put w w' b f → K (putAll ops L vals a0 ops.size) w') → Oper.wp P os (putAll ops L vals a0 ops.size) w K Q) : StepOK P md ops Q a0 (RI B lo val al) s :=
  step_at s os hi hg js hw fun L vals w _ hn hd' hI => by
    obtain ⟨b, e1, e2, e3⟩ := hI.blk i s z f (hd' i hij) ha
    rw [hn] at e3
    refine h L vals w b _ hd' hI e1 e3 fun w' hP => ⟨undef, ?_, hI.put hB (hd' i hij) ha e1 e2 hv has huniq hP⟩
    rw [hd0]
    rfl
/-- The slot of an operation that has come up. -/
theorem RI.slot (h : RI B lo val al L vals w) (hd : apartB ops = true) {j : Nat} {t : Tmp} (hj : dstOf ops j = some t) (hL : L j = true) (ht : t < a0.tmps.size) (hsz : j < ops.size) {v : Value} (hv : val j = some v) : (putAll ops L vals a0 ops.size).eval (.tmp t) = v := by
  rw [putAll_eval hd a0 hj hL ht ops.size (Nat.le_refl _) hsz]
  exact h.val_ j v hL hv
theorem slot_al (hd : apartB ops = true) {j : Nat} {t : Tmp} (hj : dstOf ops j = some t) (hL : L j = true) (ht : t < a0.tmps.size) (hsz : j < ops.size) {v : Value} (hv : vals j = v) : (putAll ops L vals a0 ops.size).eval (.tmp t) = v := by
  rw [putAll_eval hd a0 hj hL ht ops.size (Nat.le_refl _) hsz]
  exact hv
theorem slot_old {t : Tmp} (hj : ((List.range ops.size).all fun j => dstOf ops j != some t) = true) {v : Value} (hv : a0.eval (.tmp t) = v) : (putAll ops L vals a0 ops.size).eval (.tmp t) = v := by
  rw [putAll_other a0 ops.size hj]
  exact hv
end
def alOf (l : List (Nat × Nat × Obj × Obj)) (i : Nat) : Option (Nat × Obj × Obj) := (l.find? fun x => x.1 == i).map (·.2)
def valOf (l : List (Nat × Value)) (i : Nat) : Option Value := (l.find? fun x => x.1 == i).map (·.2)
theorem alOf_mem {l : List (Nat × Nat × Obj × Obj)} {i s : Nat} {z f : Obj} (h : alOf l i = some (s, z, f)) : (i, s, z, f) ∈ l := by
  unfold alOf at h
  rw [Option.map_eq_some_iff] at h
  obtain ⟨x, hx, e⟩ := h
  have h1 := List.find?_some hx
  have h2 := List.mem_of_find?_eq_some hx
  simp only [beq_iff_eq] at h1
  obtain ⟨a, b⟩ := x
  simp only at h1 e
  subst h1 e
  exact h2
theorem notStore_of {l : List (Nat × Nat × Obj × Obj)} {i : Nat} (h : (l.all fun x => x.2.1 != i) = true) : notStore (alOf l) i := fun j s z f hj e => by
  have h1 := (List.all_eq_true.1 h) _ (alOf_mem hj)
  simp [e] at h1
theorem uniq_of {l : List (Nat × Nat × Obj × Obj)} {i s : Nat} (h : (l.all fun x => x.2.1 != s || x.1 == i) = true) : ∀ j s' z' f', alOf l j = some (s', z', f') → s' = s → j = i := fun j s' z' f' hj e => by
  have h1 := (List.all_eq_true.1 h) _ (alOf_mem hj)
  simpa [e] using h1
theorem putAll_step {ops : Array Oper} {L : Nat → Bool} {vals : Nat → Value} {a : Act} {m n : Nat} {d : Option Tmp} {v : Value} (hm : m = n + 1) (hL : L n = true) (hd : dstOf ops n = d) (hv : vals n = v) : putAll ops L vals a m = (putAll ops L vals a n).put d v := by
  subst hm hd hv
  simp only [putAll]
  rw [if_pos hL]
theorem putAll_zero {ops : Array Oper} {L : Nat → Bool} {vals : Nat → Value} {a : Act} : putAll ops L vals a 0 = a := rfl
theorem exec_fieldAddr_x {P : Program} {o : Oper} {a : Act} {w : World} (s : TypeId) (x : Operand) (f : Nat) (ho : o.op = .fieldAddr s x f) (pv : Value) (hx : a.eval x = pv) (v : Value) (h : (Instr.fieldAt s pv f).run P w = .ok v w) :
    (execOp a.eval o).run P w = .ok (.value v) w := by
  unfold execOp
  simp [ho, hx, h]
end Go.Proofs.Ytcfgpjkdonidgaa
