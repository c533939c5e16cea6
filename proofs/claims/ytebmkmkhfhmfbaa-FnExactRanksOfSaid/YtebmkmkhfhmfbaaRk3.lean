/-
  spec.l05Rank. (Made by mkrk3.py.)
-/
import Derived.Test.YtebmkmkhfhmfbaaRk1
namespace Go.Proofs.Ytebmkmkhfhmfbaa
open Go.RowKit
set_option maxRecDepth 100000
theorem OwnI.ne_lt {w : World} {lo g : Nat} {v : Value} {xs : List Int} (h : OwnI w lo v xs) (hg : g < lo) : some g ≠ v.ownBlock := fun e => by
  have := (h.lt e.symm).1
  omega
attribute [local irreducible] wpList
/-- A row that can be read, in a block below hi other than the table's. -/
def RdG (w : World) (hi g b off : Nat) (xs : List Int) : Prop := hi ≤ w.heap.size ∧ g < hi ∧ b < hi ∧ b ≠ g ∧ RdI w (some ⟨b, off, none⟩) xs
theorem rdI_same {w w' : World} {b off : Nat} {xs : List Int} (h : RdI w (some ⟨b, off, none⟩) xs) (hk : ∀ o, At w b o → At w' b o) : RdI w' (some ⟨b, off, none⟩) xs := by
  rcases h with h1 | ⟨b', off', e, hc⟩
  · exact .inl h1
  · simp only [Option.some.injEq, Addr.mk.injEq, and_true] at e
    obtain ⟨rfl, rfl⟩ := e
    refine .inr ⟨b, off, rfl, fun i v hi => ?_⟩
    have c1 := hc i v hi
    have hb := block_lt_of_cell c1
    have hA : At w b w.heap[b] := Array.getElem?_eq_getElem hb
    have hA' := hk _ hA
    rw [World.cell?_of_block (w := w) (a := ⟨b, off + i, none⟩) (Eq.trans hA' (Eq.symm hA))]
    exact c1
section
variable {w w' : World} {hi g b off : Nat} {xs : List Int}
theorem RdG.rdI (h : RdG w hi g b off xs) : RdI w (some ⟨b, off, none⟩) xs := h.2.2.2.2
theorem RdG.below (h : RdG w hi g b off xs) (hb : Below w.heap.size w w') : RdG w' hi g b off xs := ⟨Nat.le_trans h.1 hb.size, h.2.1, h.2.2.1, h.2.2.2.1, h.rdI.keep hb⟩
theorem RdG.drewM (h : RdG w hi g b off xs) : RdG w.drew hi g b off xs := h.below (Below.refl _ _).drew
theorem RdG.putg {o : Obj} (h : RdG w hi g b off xs) (hp : Put w w' g o) : RdG w' hi g b off xs :=
  ⟨Nat.le_trans h.1 (Nat.le_of_eq (hp.size (n := w.heap.size) rfl).symm), h.2.1, h.2.2.1, h.2.2.2.1, rdI_same h.rdI fun _ hx => hp.other hx h.2.2.2.1⟩
theorem RdG.grown {r : Option Nat} (h : RdG w hi g b off xs) (hg : w.grownBy w' r) (hr : ∀ k, r = some k → hi ≤ k) (hs : w.heap.size ≤ w'.heap.size) : RdG w' hi g b off xs :=
  ⟨Nat.le_trans h.1 hs, h.2.1, h.2.2.1, h.2.2.2.1, rdI_same h.rdI fun _ hx => hx.grown hg (fun e => by have := hr b e.symm; have := h.2.2.1; omega)⟩
theorem RdG.raise (h : RdG w hi g b off xs) : RdG w w.heap.size g b off xs := ⟨Nat.le_refl _, Nat.lt_of_lt_of_le h.2.1 h.1, Nat.lt_of_lt_of_le h.2.2.1 h.1, h.2.2.2⟩
end
def TabS (w : World) (hi g : Nat) (cs : Array Value) (n C : Nat) (R : Nat → List Int) : Prop :=
  ∀ i, i < n → ∃ b off cap, cs[i]? = some (.slice (some ⟨b, off, none⟩) C cap) ∧ RdG w hi g b off (R i)
section
variable {w w' : World} {hi g n C : Nat} {cs : Array Value} {R : Nat → List Int}
theorem TabS.lts (h : TabS w hi g cs n C R) (hn : 0 < n) : hi ≤ w.heap.size ∧ g < hi := by
  obtain ⟨_, _, _, _, h1⟩ := h 0 hn
  exact ⟨h1.1, h1.2.1⟩
theorem TabS.get {i : Nat} (h : TabS w hi g cs n C R) (hi' : i < n) : ∃ b off cap, cs[i]? = some (.slice (some ⟨b, off, none⟩) C cap) := by
  obtain ⟨b, off, cap, h1, _⟩ := h i hi'
  exact ⟨b, off, cap, h1⟩
theorem TabS.rowR {i b off cap : Nat} (h : TabS w hi g cs n C R) (hi' : i < n) (hc : cs[0 + i * 1]? = some (.slice (some ⟨b, off, none⟩) C cap)) : RdG w hi g b off (R i) := by
  obtain ⟨b', off', cap', h1, h2⟩ := h i hi'
  rw [Nat.zero_add, Nat.mul_one, h1] at hc
  simp only [Option.some.injEq, Value.slice.injEq, Addr.mk.injEq, and_true, true_and] at hc
  obtain ⟨⟨rfl, rfl⟩, _⟩ := hc
  exact h2
theorem TabS.mapR {hi' : Nat} {w' : World} (h : TabS w hi g cs n C R) (f : ∀ b off xs, RdG w hi g b off xs → RdG w' hi' g b off xs) : TabS w' hi' g cs n C R := fun i hi => by
  obtain ⟨b, off, cap, h1, h2⟩ := h i hi
  exact ⟨b, off, cap, h1, f _ _ _ h2⟩
theorem TabS.below (h : TabS w hi g cs n C R) (hb : Below w.heap.size w w') : TabS w' hi g cs n C R := h.mapR fun _ _ _ hx => hx.below hb
theorem TabS.drewM (h : TabS w hi g cs n C R) : TabS w.drew hi g cs n C R := h.mapR fun _ _ _ hx => hx.drewM
theorem TabS.putg {o : Obj} (h : TabS w hi g cs n C R) (hp : Put w w' g o) : TabS w' hi g cs n C R := h.mapR fun _ _ _ hx => hx.putg hp
theorem TabS.grown {r : Option Nat} (h : TabS w hi g cs n C R) (hg : w.grownBy w' r) (hr : ∀ k, r = some k → hi ≤ k) (hs : w.heap.size ≤ w'.heap.size) : TabS w' hi g cs n C R := h.mapR fun _ _ _ hx => hx.grown hg hr hs
theorem TabS.raise (h : TabS w hi g cs n C R) : TabS w w.heap.size g cs n C R := h.mapR fun _ _ _ hx => hx.raise
theorem TabS.setg {k b off c : Nat} {xs : List Int} (h : TabS w hi g cs n C R) (_ : k < n) (hx : RdG w hi g b off xs) (_ : xs.length = C) (hs : k < cs.size) : TabS w hi g (cs.setIfInBounds k (.slice (some ⟨b, off, none⟩) C c)) n C (updR R k xs) := fun i hi' => by
  unfold updR
  by_cases e : i = k
  · subst e
    rw [if_pos rfl]
    exact ⟨b, off, c, by rw [Array.getElem?_setIfInBounds_self_of_lt hs], hx⟩
  · rw [if_neg e]
    obtain ⟨b', off', cap', h1, h2⟩ := h i hi'
    exact ⟨b', off', cap', by rw [Array.getElem?_setIfInBounds_ne (fun h9 => e h9.symm)]; exact h1, h2⟩
theorem TabS.start {w0 : World} {VS : List Value} (hB : Below w0.heap.size w0 w) (hg : w0.heap.size ≤ g) (h5 : At w g (.cells cs 49 (0, 0))) (hcs : ∀ (i : Nat) (v : Value), VS[i]? = some v → cs[i]? = some v) (_ : VS.length = n)
    (hv : ∀ i, i < n → ∃ b off cap, VS[i]? = some (.slice (some ⟨b, off, none⟩) C cap) ∧ b < w0.heap.size ∧ RdI w0 (some ⟨b, off, none⟩) (R i)) : TabS w w.heap.size g cs n C R := fun i hi' => by
  obtain ⟨b, off, cap, h1, h2, h3⟩ := hv i hi'
  exact ⟨b, off, cap, hcs _ _ h1, Nat.le_refl _, h5.lt, Nat.lt_of_lt_of_le h2 hB.size, by omega, h3.keep hB⟩
end
theorem swp_at {R : Nat → List Int} {r P : Nat} : swp R r P r = R P := by
  unfold swp
  by_cases e : r = P
  · rw [if_pos e, e]
  · rw [if_neg e, if_pos rfl]
theorem updR_swp {R : Nat → List Int} {r P : Nat} : updR (updR R P (R r)) r (R P) = swp R r P := by
  funext i
  unfold updR swp
  by_cases e : i = r
  · subst e
    by_cases e2 : i = P
    · subst e2
      simp
    · simp [e2]
  · simp [e]
theorem clS_start {p : Int} {C : Nat} {R : Nat → List Int} {r c : Nat} : clS p C R r c (r + 1) = R := funext fun i => by rw [clS, if_neg (by omega)]
theorem clS_zero {p : Int} {C : Nat} {R : Nat → List Int} {r c k : Nat} (h : facS p (R k) (R r) c = 0) : clS p C R r c (k + 1) = clS p C R r c k := by
  funext i
  unfold clS
  by_cases e : i = k
  · subst e
    rw [if_neg (show ¬ (r < i ∧ i < i) by omega)]
    split
    · unfold combS
      rw [if_pos h]
    · rfl
  · by_cases e2 : r < i ∧ i < k
    · rw [if_pos e2, if_pos ⟨e2.1, by omega⟩]
    · rw [if_neg e2, if_neg (fun h9 => e2 ⟨h9.1, by omega⟩)]
theorem clS_step {p : Int} {C : Nat} {R : Nat → List Int} {r c k : Nat} (h : r < k) : updR (clS p C R r c k) k (combS p C (R k) (R r) c) = clS p C R r c (k + 1) := by
  funext i
  unfold updR clS
  by_cases e : i = k
  · subst e
    rw [if_pos rfl, if_pos ⟨h, by omega⟩]
  · rw [if_neg e]
    by_cases e2 : r < i ∧ i < k
    · rw [if_pos e2, if_pos ⟨e2.1, by omega⟩]
    · rw [if_neg e2, if_neg (fun h9 => e2 ⟨h9.1, by omega⟩)]
theorem combS_step {p : Int} {C : Nat} {x y : List Int} {c k : Nat} {X : Int} (hk : k < C) (hf : facS p x y c ≠ 0) (hX : (x[k]?.getD 0 - facS p x y c * y[k]?.getD 0) % p = X) : (combS p C x y c).take k ++ [X] = (combS p C x y c).take (k + 1) := by
  unfold combS
  rw [if_neg hf, List.take_add_one]
  simp [hk, hX]
theorem RdI.c1K {w : World} {b off : Nat} {xs : List Int} {X : Int} {i : Nat} (h : RdI w (some ⟨b, off, none⟩) xs) (hi : xs[i]? = some X) : w.cell? ⟨b, off + i * 1, none⟩ = some (.int .i64 X) := by
  have hlt : i < xs.length := (List.getElem?_eq_some_iff.1 hi).1
  obtain ⟨b', off', hA0, hc⟩ := h.at_ hlt
  cases hA0
  rw [List.getElem?_eq_getElem hlt] at hi
  cases hi
  rw [Nat.mul_one]
  exact hc
theorem OwnI.openK {w : World} {lo n : Nat} {v : Value} {xs : List Int} (h : OwnI w lo v xs) (hn : xs.length = n) (hp : 0 < n) : ∃ g c, v = .slice (some ⟨g, 0, none⟩) n c ∧ n ≤ c ∧ lo ≤ g := by
  obtain ⟨g, c, _, h1, h2, h3, _⟩ := ownI_openC h hn hp
  exact ⟨g, c, h1, h3, h2⟩
theorem ownS_nil0 {w : World} {lo b : Nat} (h : At w b (.cells #[] 49 (0, 0))) (hl : lo ≤ b) : OwnS w lo (.slice (some ⟨b, 0, none⟩) 0 0) [] := ⟨by simp, .inr ⟨b, 0, #[], rfl, hl, h, by simp, by simp, by simp, by simp⟩⟩
theorem ownS_open {w : World} {lo n : Nat} {v : Value} {vs : List Value} (h : OwnS w lo v vs) (hn : vs.length = n) (hp : 0 < n) : ∃ g cap cs, v = .slice (some ⟨g, 0, none⟩) n cap ∧ lo ≤ g ∧ At w g (.cells cs 49 (0, 0)) ∧ n ≤ cap ∧ ∀ (i : Nat) (u : Value), vs[i]? = some u → cs[i]? = some u := by
  rcases h.2 with ⟨_, h0⟩ | ⟨g, cap, cur, rfl, hb, hgg, hle, hcap, hsz, ht⟩
  · omega
  · refine ⟨g, cap, cur, by rw [hn], hb, hgg, by omega, fun t u hu => ?_⟩
    rw [← ht, List.getElem?_take] at hu
    split at hu
    · rwa [Array.getElem?_toList] at hu
    · cases hu
theorem cellK {w w' : World} {a : Addr} {v : Value} (hB : Below w.heap.size w w') (h : w.cell? a = some v) : w'.cell? a = some v := by
  rw [hB.cell (p := a) (block_lt_of_cell h)]
  exact h
theorem addr_add {w : World} {b off j : Nat} {u : Value} (h : w.cell? ⟨b, off + j, none⟩ = some u) : w.cell? ((⟨b, off, none⟩ : Addr).add j) = some u := by
  unfold Addr.add
  split
  · next e0 =>
    subst e0
    exact h
  · exact h
theorem wp_appSs {o : Oper} {a : Act} {w : World} {K : Act → World → Prop} {Q : Exit → Act → World → Prop} (d : Option Tmp) (hd : o.dst = d) (s x : Operand) (ho : o.op = .call { callee := .builtin .append, args := #[s, x], argTypes := #[26, 26] })
    {lo : Nat} (v : Value) (vs : List Value) (hs : a.eval s = v) (h0 : OwnS w lo v vs) (b off n c : Nat) (us : List Value) (hus : us.length = n) (hx : a.eval x = .slice (some ⟨b, off, none⟩) n c) (hc : ∀ (j : Nat) (u : Value), us[j]? = some u → w.cell? ⟨b, off + j, none⟩ = some u) (h1 : ∀ u ∈ us, u.oneCell' = true) (hle : vs.length + n ≤ 1000000) (hlo : lo ≤ w.heap.size)
    (h : ∀ v' w', OwnS w' lo v' (vs ++ us) → w.grownBy w' v.ownBlock → K (a.put d v') w') : Oper.wp Try.prog o a w K Q := by
  obtain ⟨i0, hi, hz0, hz1, hz2⟩ := info_parts infoIS
  refine wp_append' d hd s x 26 ho lo 49 i0 (.slice none 0 0) 1 24 Try.underlying26 hi hz0 hz1 hz2 rfl (by decide) v _ _ hs h0 ⟨b, off, none⟩ n c us hx (by omega) (fun j u hj => addr_add (hc j u hj)) h1 (by unfold maxLen; omega) (by omega) hlo ?_
  intro v1 w8 own8 gr8 _
  refine h v1 w8 ?_ gr8
  unfold OwnS
  rw [List.length_append, hus]
  exact own8
set_option maxHeartbeats 16000000 in
theorem rankS_c (p : Int) (n C bA oA c0 : Nat) (R0 : Nat → List Int) (w : World) (hp : primeB p = true) (hA : RdM w (some ⟨bA, oA, none⟩) n R0) (hR : Rg p n C R0) (hn : 1 ≤ n ∧ n ≤ 1000) (hC : 1 ≤ C ∧ C ≤ 1000) :
    Calls Try.prog 35 #[.int .i64 p, .slice (some ⟨bA, oA, none⟩) n c0] w (fun e w' => e = .returned (.int .i64 ((rkS p n C R0 C).2 : Nat)) ∧ Below w.heap.size w w') := by
  have hB := Below.refl w.heap.size w
  have hp5 := primeB_5 hp
  have HR0 := Lib.hid hR
  obtain ⟨VS, hVS⟩ : ∃ z9 : List Value, (List.range n).map (fun i => (w.cell? ⟨bA, oA + i, none⟩).getD (.bool false)) = z9 := ⟨_, rfl⟩
  have HVl : Hid (VS.length = n) := Lib.hid (by rw [← hVS]; simp)
  have hV0 : ∀ i, i < n → ∃ b off cap, VS[i]? = some (.slice (some ⟨b, off, none⟩) C cap) ∧ b < w.heap.size ∧ RdI w (some ⟨b, off, none⟩) (R0 i) ∧ w.cell? ⟨bA, oA + i, none⟩ = some (.slice (some ⟨b, off, none⟩) C cap) := fun i hi => by
    obtain ⟨b, off, B, c, e, h1, h2⟩ := hA.at_ hi
    simp only [Option.some.injEq, Addr.mk.injEq, and_true] at e
    obtain ⟨rfl, rfl⟩ := e
    have hl := (hR i hi).1
    obtain ⟨b', off', rfl, h3⟩ := h2.at_ (i := 0) (by omega)
    rw [hl] at h1
    exact ⟨b', off', c, by rw [← hVS]; simp [hi, h1], block_lt_of_cell h3, h2, h1⟩
  have HVc : Hid (∀ (j : Nat) (u : Value), VS[j]? = some u → w.cell? ⟨bA, oA + j, none⟩ = some u) := Lib.hid (fun j u hj => by
    have hjn : j < n := by have := (List.getElem?_eq_some_iff.1 hj).1; rw [HVl.out] at this; exact this
    obtain ⟨b, off, cap, h1, _, _, h4⟩ := hV0 j hjn
    rw [h1] at hj
    rw [h4, ← hj])
  have HV1 : Hid (∀ u ∈ VS, u.oneCell' = true) := Lib.hid (fun u hu => by
    obtain ⟨j, hj, e⟩ := List.mem_iff_getElem.1 hu
    obtain ⟨b, off, cap, h1, _⟩ := hV0 j (by rw [HVl.out] at hj; exact hj)
    rw [List.getElem?_eq_getElem hj, e] at h1
    cases h1
    rfl)
  have HVr : Hid (∀ i, i < n → ∃ b off cap, VS[i]? = some (.slice (some ⟨b, off, none⟩) C cap) ∧ b < w.heap.size ∧ RdI w (some ⟨b, off, none⟩) (R0 i)) := Lib.hid (fun i hi => by
    obtain ⟨b, off, cap, h1, h2, h3, _⟩ := hV0 i hi
    exact ⟨b, off, cap, h1, h2, h3⟩)
  clear hVS hV0 hR hA
  go_enter Try.func35, Try.ntmps35
  go_upto_region 0 with (fail)
  refine wp_region_lit ?_
  refine ls_ex (some 4) (.int .i64 0) rfl rfl (exec_assign _ rfl (.int .i64 0) rfl) ?_
  go_frame
  refine wpList_nil ?_
  go_upto_region 1 with (fail)
  refine wp_region_lit ?_
  refine ls_op rfl (fun K' hK' => ?_)
  have lz1 := hB.size
  refine wp_new (some 15) rfl (exec_bs0M rfl) (fun Wz2 nnz3 => ?_)
  have bz4 := nnz3.below (Below.refl _ _) (Nat.le_refl _)
  replace hB := below_after hB bz4
  have hk0 : At Wz2 w.heap.size (.cells #[] 49 (0, 0)) := nnz3.at_
  refine hK' _ _ ?_
  clear hK' K' nnz3 bz4
  go_frame
  refine ls_ex (some 16) (.slice (some ⟨bA, oA, none⟩) n c0) rfl rfl (exec_move _ rfl (.slice (some ⟨bA, oA, none⟩) n c0) rfl) ?_
  go_frame
  refine ls_op rfl (fun K' hK' => ?_)
  have lz8 := hB.size
  have lz9 := hk0.lt
  refine wp_appSs (some 17) rfl _ _ rfl _ [] rfl (ownS_nil0 hk0 (Nat.le_refl _)) bA oA n c0 VS HVl.out rfl (fun j u hj => cellK hB (HVc.out j u hj)) HV1.out (by simp; omega) (by omega) (fun v9 Wz5 noz7 grz6 => ?_)
  have hB0 := hB.size
  replace hB := below_grownS hB grz6 (ownS_nil0 hk0 (Nat.le_refl _)) (by omega)
  rw [List.nil_append] at noz7
  obtain ⟨g, cap, cs, rfl, hgl, h5, hcap, hcs⟩ := ownS_open noz7 HVl.out (by omega)
  have hS := TabS.start hB hgl h5 hcs HVl.out HVr.out
  clear hk0 hB0 noz7
  refine hK' _ _ ?_
  clear hK' K' grz6
  go_frame
  refine ls_ex (some 5) (.slice (some ⟨g, 0, none⟩) n cap) rfl rfl (exec_assign _ rfl (.slice (some ⟨g, 0, none⟩) n cap) rfl) ?_
  go_frame
  refine ls_ex (some 6) (.int .i64 0) rfl rfl (exec_assign _ rfl (.int .i64 0) rfl) ?_
  go_frame
  refine wpList_nil ?_
  go_upto_region 2 with (fail)
  refine wp_region_lit ?_
  refine ls_ex (some 7) (.int .i64 0) rfl rfl (exec_assign _ rfl (.int .i64 0) rfl) ?_
  go_frame
  refine wpList_nil ?_
  go_wp2_with fail
  go_loopw [6, 7] (fun s6 s7 wr => ∃ (c r : Nat) (cs : Array Value) (hi : Nat) (R : Nat → List Int), c ≤ C ∧ s7 = .int .i64 c ∧ s6 = .int .i64 r ∧ Hid (rkS p n C R0 c = (R, r)) ∧ Below w.heap.size w wr ∧ At wr g (.cells cs 49 (0, 0)) ∧ TabS wr hi g cs n C (R)) (fun _ s7 _ => C - (intOf s7).toNat)
  case atStart => exact ⟨0, 0, _, _, _, by omega, rfl, rfl, Lib.hid rfl, hB, h5, hS⟩
  case round =>
    clear hB h5 hS
    obtain ⟨c, r, cs, hi, R, hle, rfl, rfl, HRk, hB, h5, hS⟩ := hrel
    by_cases hc : c < C
    · by_cases hpz : pv R n r c = n
      · obtain ⟨wv, rfl⟩ : ∃ z : World, z = wr := ⟨_, rfl⟩
        have HRg0 := Lib.hid (rkS_rg (C := C) (show 0 < p by omega) HR0.out c)
        rw [HRk.out] at HRg0
        have HRg : Hid (Rg p n C R) := Lib.hid HRg0.out.1
        have hrn : r ≤ n := HRg0.out.2
        have hPb := pv_bd (R := R) (c := c) hrn
        obtain ⟨P, hP⟩ : ∃ z9, pv R n r c = z9 := ⟨_, rfl⟩
        rw [hP] at hPb hpz
        have HPv : Hid (pvF R c (n - r) r = P) := Lib.hid hP
        obtain ⟨bz, oz, cz, hz9⟩ := hS.get (show 0 < n by omega)
        have HCz : Hid (cs[0 + 0 * 1]? = some (.slice (some ⟨bz, oz, none⟩) C cz)) := Lib.hid (by rw [Nat.zero_add, Nat.mul_one]; exact hz9)
        clear hz9
        clear HRg0
        have hPn : P = n := by omega
        have HR2 : Hid (rkS p n C R0 (c + 1) = (R, r)) := Lib.hid (by rw [rkS, HRk.out]; unfold stS; rw [if_pos (by rw [hP]; exact hPn)])
        clear hP
        go_upto_region 3 with (fail)
        refine wp_region_lit ?_
        refine ls_ex (some 18) (.slice (some ⟨g, 0, none⟩) n cap) rfl rfl (exec_move _ rfl (.slice (some ⟨g, 0, none⟩) n cap) rfl) ?_
        go_frame
        refine ls_ex (some 19) (.int .i64 n) rfl rfl (exec_len _ 26 49 rfl ((some ⟨g, 0, none⟩)) n cap rfl Try.underlying26) ?_
        go_frame
        refine ls_ex (some 20) (.bool true) rfl rfl (exec_gtr _ _ _ _ rfl n 0 rfl rfl true (decide_eq_true (by omega))) ?_
        go_frame
        refine ls_ex (some 21) (.bool true) rfl rfl (exec_move _ rfl (.bool true) rfl) ?_
        go_frame
        refine ls_ex_g (some 22) (.int .i64 c) rfl rfl (exec_move _ rfl (.int .i64 c) rfl) ?_
        go_frame
        refine ls_ex_g (some 23) (.slice (some ⟨g, 0, none⟩) n cap) rfl rfl (exec_move _ rfl (.slice (some ⟨g, 0, none⟩) n cap) rfl) ?_
        go_frame
        refine ls_ex_g (some 24) (.pointer (some ⟨g, 0 + 0 * 1, none⟩)) rfl rfl (exec_index_slice _ 49 _ _ rfl g 0 n cap 0 1 rfl rfl Try.underlying26 (by kernel_rfl) (by omega)) ?_
        go_frame
        refine ls_ex_g (some 25) (.slice (some ⟨bz, oz, none⟩) C cz) rfl rfl (exec_load_one 49 _ rfl g (0 + 0 * 1) rfl (.slice (some ⟨bz, oz, none⟩) C cz) _ Try.underlying49 rfl (cellA h5 HCz.out)) ?_
        go_frame
        refine ls_ex_g (some 26) (.int .i64 C) rfl rfl (exec_len _ 49 2 rfl ((some ⟨bz, oz, none⟩)) C cz rfl Try.underlying49) ?_
        go_frame
        refine ls_ex_g (some 27) (.bool true) rfl rfl (exec_lss _ _ _ _ rfl c C rfl rfl true (decide_eq_true (by omega))) ?_
        go_frame
        refine ls_ex (some 28) (.bool true) rfl rfl (exec_pick _ _ _ rfl true rfl (.bool true) rfl) ?_
        go_frame
        refine wpList_nil ?_
        go_upto_region 5 with (fail)
        refine wp_region_lit ?_
        refine ls_ex (some 31) (.int .i64 r) rfl rfl (exec_move _ rfl (.int .i64 r) rfl) ?_
        go_frame
        refine ls_ex (some 8) (.int .i64 r) rfl rfl (exec_assign _ rfl (.int .i64 r) rfl) ?_
        go_frame
        refine wpList_nil ?_
        go_wp2_with fail
        go_loopw [8] (fun s8 wr => ∃ b : Nat, r ≤ b ∧ b ≤ n ∧ s8 = .int .i64 b ∧ Hid (pvF R c (n - b) b = P) ∧ Below w.heap.size w wr ∧ At wr g (.cells cs 49 (0, 0)) ∧ TabS wr hi g cs n C (R)) (fun s8 _ => n - (intOf s8).toNat)
        case atStart => exact ⟨r, by omega, hrn, rfl, HPv, hB, h5, hS⟩
        case round =>
          clear hB h5 hS
          obtain ⟨b, hle1, hle2, rfl, HPf, hB, h5, hS⟩ := hrel
          by_cases hbl : b < n
          · by_cases hz : ent R b c = 0
            · have hbn : b < n := by omega
              obtain ⟨bb, ob, cb, hb9⟩ := hS.get hbn
              have HCb : Hid (cs[0 + b * 1]? = some (.slice (some ⟨bb, ob, none⟩) C cb)) := Lib.hid (by rw [Nat.zero_add, Nat.mul_one]; exact hb9)
              clear hb9
              have HE0 := Lib.hid (HRg.out.at_ hbn hc)
              obtain ⟨E, hE, hEb⟩ := HE0.out
              have HE := Lib.hid hE
              have hEn : ent R b c = E := by unfold ent; rw [hE]; rfl
              have HP2 : Hid (pvF R c (n - (b + 1)) (b + 1) = P) := Lib.hid (by rw [← HPf.out, pvF_zero hbn hz])
              have HZ : Hid ((E == 0) = true) := Lib.hid (by simp; rw [← hEn]; exact hz)
              clear hE hEn hz HE0
              go_upto_region 6 with (fail)
              refine wp_region_lit ?_
              refine ls_ex (some 32) (.int .i64 b) rfl rfl (exec_move _ rfl (.int .i64 b) rfl) ?_
              go_frame
              refine ls_ex (some 33) (.slice (some ⟨g, 0, none⟩) n cap) rfl rfl (exec_move _ rfl (.slice (some ⟨g, 0, none⟩) n cap) rfl) ?_
              go_frame
              refine ls_ex (some 34) (.int .i64 n) rfl rfl (exec_len _ 26 49 rfl ((some ⟨g, 0, none⟩)) n cap rfl Try.underlying26) ?_
              go_frame
              refine ls_ex (some 35) (.bool true) rfl rfl (exec_lss _ _ _ _ rfl b n rfl rfl true (decide_eq_true (by omega))) ?_
              go_frame
              refine ls_ex (some 36) (.bool true) rfl rfl (exec_move _ rfl (.bool true) rfl) ?_
              go_frame
              refine ls_ex_g (some 37) (.slice (some ⟨g, 0, none⟩) n cap) rfl rfl (exec_move _ rfl (.slice (some ⟨g, 0, none⟩) n cap) rfl) ?_
              go_frame
              refine ls_ex_g (some 38) (.int .i64 b) rfl rfl (exec_move _ rfl (.int .i64 b) rfl) ?_
              go_frame
              refine ls_ex_g (some 39) (.pointer (some ⟨g, 0 + b * 1, none⟩)) rfl rfl (exec_index_slice _ 49 _ _ rfl g 0 n cap b 1 rfl rfl Try.underlying26 (by kernel_rfl) (by omega)) ?_
              go_frame
              refine ls_ex_g (some 40) (.slice (some ⟨bb, ob, none⟩) C cb) rfl rfl (exec_load_one 49 _ rfl g (0 + b * 1) rfl (.slice (some ⟨bb, ob, none⟩) C cb) _ Try.underlying49 rfl (cellA h5 HCb.out)) ?_
              go_frame
              refine ls_ex_g (some 41) (.int .i64 c) rfl rfl (exec_move _ rfl (.int .i64 c) rfl) ?_
              go_frame
              refine ls_ex_g (some 42) (.pointer (some ⟨bb, ob + c * 1, none⟩)) rfl rfl (exec_index_slice _ 2 _ _ rfl bb ob C cb c 1 rfl rfl Try.underlying49 (by kernel_rfl) hc) ?_
              go_frame
              refine ls_ex_g (some 43) (.int .i64 E) rfl rfl (exec_load_one 2 _ rfl bb (ob + c * 1) rfl (.int .i64 E) _ Try.underlying2 rfl (RdI.c1K (((hS).rowR hbn HCb.out).rdI) HE.out)) ?_
              go_frame
              refine ls_ex_g (some 44) (.bool true) rfl rfl (exec_eql _ _ _ _ rfl E 0 rfl rfl true HZ.out) ?_
              go_frame
              refine ls_ex (some 45) (.bool true) rfl rfl (exec_pick _ _ _ rfl true rfl (.bool true) rfl) ?_
              go_frame
              refine wpList_nil ?_
              go_upto_region 7 with (fail)
              refine wp_region_lit ?_
              refine ls_ex (some 46) (.int .i64 b) rfl rfl (exec_move _ rfl (.int .i64 b) rfl) ?_
              go_frame
              refine ls_ex (some 47) (.int .i64 (b + 1)) rfl rfl (exec_add _ _ _ _ rfl b 1 (b + 1) rfl rfl (IntWalk.i64_in _ (by omega))) ?_
              go_frame
              refine ls_ex (some 8) (.int .i64 (b + 1)) rfl rfl (exec_assign _ rfl (.int .i64 (b + 1)) rfl) ?_
              go_frame
              refine wpList_nil ?_
              go_wp2_with fail
              go_roundw
              case rel => exact ⟨b + 1, by omega, by omega, by go_num, HP2, hB, h5, hS⟩
              case measure => simp [intOf] <;> omega
            · exact absurd (show b = P by have h9 := HPf.out; rw [pvF_some hbl hz] at h9; exact h9) (by omega)
          · have hPb9 : b = P := by have h9 := HPf.out; rw [show b = n by omega, pvF_end] at h9; omega
            obtain ⟨wk, rfl⟩ : ∃ z : World, z = wr := ⟨_, rfl⟩
            go_upto_region 6 with (fail)
            refine wp_region_lit ?_
            refine ls_ex (some 32) (.int .i64 b) rfl rfl (exec_move _ rfl (.int .i64 b) rfl) ?_
            go_frame
            refine ls_ex (some 33) (.slice (some ⟨g, 0, none⟩) n cap) rfl rfl (exec_move _ rfl (.slice (some ⟨g, 0, none⟩) n cap) rfl) ?_
            go_frame
            refine ls_ex (some 34) (.int .i64 n) rfl rfl (exec_len _ 26 49 rfl ((some ⟨g, 0, none⟩)) n cap rfl Try.underlying26) ?_
            go_frame
            refine ls_ex (some 35) (.bool false) rfl rfl (exec_lss _ _ _ _ rfl b n rfl rfl false (decide_eq_false (by omega))) ?_
            go_frame
            refine ls_ex (some 36) (.bool false) rfl rfl (exec_move _ rfl (.bool false) rfl) ?_
            go_frame
            refine ls_skip_g (some 37) rfl rfl ?_
            go_frame
            refine ls_skip_g (some 38) rfl rfl ?_
            go_frame
            refine ls_skip_g (some 39) rfl rfl ?_
            go_frame
            refine ls_skip_g (some 40) rfl rfl ?_
            go_frame
            refine ls_skip_g (some 41) rfl rfl ?_
            go_frame
            refine ls_skip_g (some 42) rfl rfl ?_
            go_frame
            refine ls_skip_g (some 43) rfl rfl ?_
            go_frame
            refine ls_skip_g (some 44) rfl rfl ?_
            go_frame
            refine ls_ex (some 45) (.bool false) rfl rfl (exec_pick _ _ _ rfl false rfl (.bool false) rfl) ?_
            go_frame
            refine wpList_nil ?_
            go_upto_region 8 with (fail)
            refine wp_region_lit ?_
            refine ls_ex (some 48) (.int .i64 b) rfl rfl (exec_move _ rfl (.int .i64 b) rfl) ?_
            go_frame
            refine ls_ex (some 49) (.slice (some ⟨g, 0, none⟩) n cap) rfl rfl (exec_move _ rfl (.slice (some ⟨g, 0, none⟩) n cap) rfl) ?_
            go_frame
            refine ls_ex (some 50) (.int .i64 n) rfl rfl (exec_len _ 26 49 rfl ((some ⟨g, 0, none⟩)) n cap rfl Try.underlying26) ?_
            go_frame
            refine ls_ex (some 51) (.bool true) rfl rfl (exec_eql _ _ _ _ rfl b n rfl rfl true (decide_eq_true (by omega))) ?_
            go_frame
            refine wpList_nil ?_
            go_upto_region 4 with (fail)
            refine wp_region_lit ?_
            refine ls_ex (some 29) (.int .i64 c) rfl rfl (exec_move _ rfl (.int .i64 c) rfl) ?_
            go_frame
            refine ls_ex (some 30) (.int .i64 (c + 1)) rfl rfl (exec_add _ _ _ _ rfl c 1 (c + 1) rfl rfl (IntWalk.i64_in _ (by omega))) ?_
            go_frame
            refine ls_ex (some 7) (.int .i64 (c + 1)) rfl rfl (exec_assign _ rfl (.int .i64 (c + 1)) rfl) ?_
            go_frame
            refine wpList_nil ?_
            go_wp2_with fail
            go_roundw
            case rel => exact ⟨c + 1, r, cs, hi, R, by omega, by go_num, rfl, HR2, hB, h5, hS⟩
            case measure => simp [intOf] <;> omega
      · obtain ⟨wv, rfl⟩ : ∃ z : World, z = wr := ⟨_, rfl⟩
        have HRg0 := Lib.hid (rkS_rg (C := C) (show 0 < p by omega) HR0.out c)
        rw [HRk.out] at HRg0
        have HRg : Hid (Rg p n C R) := Lib.hid HRg0.out.1
        have hrn : r ≤ n := HRg0.out.2
        have hPb := pv_bd (R := R) (c := c) hrn
        obtain ⟨P, hP⟩ : ∃ z9, pv R n r c = z9 := ⟨_, rfl⟩
        rw [hP] at hPb hpz
        have HPv : Hid (pvF R c (n - r) r = P) := Lib.hid hP
        obtain ⟨bz, oz, cz, hz9⟩ := hS.get (show 0 < n by omega)
        have HCz : Hid (cs[0 + 0 * 1]? = some (.slice (some ⟨bz, oz, none⟩) C cz)) := Lib.hid (by rw [Nat.zero_add, Nat.mul_one]; exact hz9)
        clear hz9
        clear HRg0
        have hPn : P < n := by omega
        have hr : r < n := by omega
        have HR2 : Hid (rkS p n C R0 (c + 1) = (clS p C (swp R r P) r c n, r + 1)) := Lib.hid (by rw [rkS, HRk.out]; unfold stS; simp only [hP]; rw [if_neg (by omega)])
        obtain ⟨bo, oo, co, ho9⟩ := hS.get hPn
        have HCo : Hid (cs[0 + P * 1]? = some (.slice (some ⟨bo, oo, none⟩) C co)) := Lib.hid (by rw [Nat.zero_add, Nat.mul_one]; exact ho9)
        clear ho9
        obtain ⟨ba, oa, ca, ha9⟩ := hS.get hr
        have HCa : Hid (cs[0 + r * 1]? = some (.slice (some ⟨ba, oa, none⟩) C ca)) := Lib.hid (by rw [Nat.zero_add, Nat.mul_one]; exact ha9)
        clear ha9
        obtain ⟨R1, hR1⟩ : ∃ z9, swp R r P = z9 := ⟨_, rfl⟩
        rw [hR1] at HR2
        have HRg1 : Hid (Rg p n C R1) := Lib.hid (by rw [← hR1]; exact HRg.out.swp hr hPn)
        have hRr : R1 r = R P := by rw [← hR1]; exact swp_at
        obtain ⟨Y, hY, hYb⟩ := HRg1.out.at_ hr hc
        have hYn : Y ≠ 0 := by have h9 := hPb.2.2 hPn; unfold ent at h9; rw [← hRr, hY] at h9; exact h9
        have HY := Lib.hid hY
        obtain ⟨IV, hIV⟩ : ∃ z9, inv p Y = z9 := ⟨_, rfl⟩
        have hIVb := inv_range hp (a := Y) (by omega) hYb.2
        rw [hIV] at hIVb
        have HRr := Lib.hid hRr
        have HR1 := Lib.hid hR1
        have HIV := Lib.hid hIV
        have HSz1 : Hid (0 + P * 1 < cs.size) := Lib.hid (Array.getElem?_eq_some_iff.1 HCo.out).1
        clear hP hY hRr hR1
        go_upto_region 3 with (fail)
        refine wp_region_lit ?_
        refine ls_ex (some 18) (.slice (some ⟨g, 0, none⟩) n cap) rfl rfl (exec_move _ rfl (.slice (some ⟨g, 0, none⟩) n cap) rfl) ?_
        go_frame
        refine ls_ex (some 19) (.int .i64 n) rfl rfl (exec_len _ 26 49 rfl ((some ⟨g, 0, none⟩)) n cap rfl Try.underlying26) ?_
        go_frame
        refine ls_ex (some 20) (.bool true) rfl rfl (exec_gtr _ _ _ _ rfl n 0 rfl rfl true (decide_eq_true (by omega))) ?_
        go_frame
        refine ls_ex (some 21) (.bool true) rfl rfl (exec_move _ rfl (.bool true) rfl) ?_
        go_frame
        refine ls_ex_g (some 22) (.int .i64 c) rfl rfl (exec_move _ rfl (.int .i64 c) rfl) ?_
        go_frame
        refine ls_ex_g (some 23) (.slice (some ⟨g, 0, none⟩) n cap) rfl rfl (exec_move _ rfl (.slice (some ⟨g, 0, none⟩) n cap) rfl) ?_
        go_frame
        refine ls_ex_g (some 24) (.pointer (some ⟨g, 0 + 0 * 1, none⟩)) rfl rfl (exec_index_slice _ 49 _ _ rfl g 0 n cap 0 1 rfl rfl Try.underlying26 (by kernel_rfl) (by omega)) ?_
        go_frame
        refine ls_ex_g (some 25) (.slice (some ⟨bz, oz, none⟩) C cz) rfl rfl (exec_load_one 49 _ rfl g (0 + 0 * 1) rfl (.slice (some ⟨bz, oz, none⟩) C cz) _ Try.underlying49 rfl (cellA h5 HCz.out)) ?_
        go_frame
        refine ls_ex_g (some 26) (.int .i64 C) rfl rfl (exec_len _ 49 2 rfl ((some ⟨bz, oz, none⟩)) C cz rfl Try.underlying49) ?_
        go_frame
        refine ls_ex_g (some 27) (.bool true) rfl rfl (exec_lss _ _ _ _ rfl c C rfl rfl true (decide_eq_true (by omega))) ?_
        go_frame
        refine ls_ex (some 28) (.bool true) rfl rfl (exec_pick _ _ _ rfl true rfl (.bool true) rfl) ?_
        go_frame
        refine wpList_nil ?_
        go_upto_region 5 with (fail)
        refine wp_region_lit ?_
        refine ls_ex (some 31) (.int .i64 r) rfl rfl (exec_move _ rfl (.int .i64 r) rfl) ?_
        go_frame
        refine ls_ex (some 8) (.int .i64 r) rfl rfl (exec_assign _ rfl (.int .i64 r) rfl) ?_
        go_frame
        refine wpList_nil ?_
        go_wp2_with fail
        go_loopw [8] (fun s8 wr => ∃ b : Nat, r ≤ b ∧ b ≤ n ∧ s8 = .int .i64 b ∧ Hid (pvF R c (n - b) b = P) ∧ Below w.heap.size w wr ∧ At wr g (.cells cs 49 (0, 0)) ∧ TabS wr hi g cs n C (R)) (fun s8 _ => n - (intOf s8).toNat)
        case atStart => exact ⟨r, by omega, hrn, rfl, HPv, hB, h5, hS⟩
        case round =>
          clear hB h5 hS
          obtain ⟨b, hle1, hle2, rfl, HPf, hB, h5, hS⟩ := hrel
          by_cases hbl : b < n
          · by_cases hz : ent R b c = 0
            · have hbn : b < n := by omega
              obtain ⟨bb, ob, cb, hb9⟩ := hS.get hbn
              have HCb : Hid (cs[0 + b * 1]? = some (.slice (some ⟨bb, ob, none⟩) C cb)) := Lib.hid (by rw [Nat.zero_add, Nat.mul_one]; exact hb9)
              clear hb9
              have HE0 := Lib.hid (HRg.out.at_ hbn hc)
              obtain ⟨E, hE, hEb⟩ := HE0.out
              have HE := Lib.hid hE
              have hEn : ent R b c = E := by unfold ent; rw [hE]; rfl
              have HP2 : Hid (pvF R c (n - (b + 1)) (b + 1) = P) := Lib.hid (by rw [← HPf.out, pvF_zero hbn hz])
              have HZ : Hid ((E == 0) = true) := Lib.hid (by simp; rw [← hEn]; exact hz)
              clear hE hEn hz HE0
              go_upto_region 6 with (fail)
              refine wp_region_lit ?_
              refine ls_ex (some 32) (.int .i64 b) rfl rfl (exec_move _ rfl (.int .i64 b) rfl) ?_
              go_frame
              refine ls_ex (some 33) (.slice (some ⟨g, 0, none⟩) n cap) rfl rfl (exec_move _ rfl (.slice (some ⟨g, 0, none⟩) n cap) rfl) ?_
              go_frame
              refine ls_ex (some 34) (.int .i64 n) rfl rfl (exec_len _ 26 49 rfl ((some ⟨g, 0, none⟩)) n cap rfl Try.underlying26) ?_
              go_frame
              refine ls_ex (some 35) (.bool true) rfl rfl (exec_lss _ _ _ _ rfl b n rfl rfl true (decide_eq_true (by omega))) ?_
              go_frame
              refine ls_ex (some 36) (.bool true) rfl rfl (exec_move _ rfl (.bool true) rfl) ?_
              go_frame
              refine ls_ex_g (some 37) (.slice (some ⟨g, 0, none⟩) n cap) rfl rfl (exec_move _ rfl (.slice (some ⟨g, 0, none⟩) n cap) rfl) ?_
              go_frame
              refine ls_ex_g (some 38) (.int .i64 b) rfl rfl (exec_move _ rfl (.int .i64 b) rfl) ?_
              go_frame
              refine ls_ex_g (some 39) (.pointer (some ⟨g, 0 + b * 1, none⟩)) rfl rfl (exec_index_slice _ 49 _ _ rfl g 0 n cap b 1 rfl rfl Try.underlying26 (by kernel_rfl) (by omega)) ?_
              go_frame
              refine ls_ex_g (some 40) (.slice (some ⟨bb, ob, none⟩) C cb) rfl rfl (exec_load_one 49 _ rfl g (0 + b * 1) rfl (.slice (some ⟨bb, ob, none⟩) C cb) _ Try.underlying49 rfl (cellA h5 HCb.out)) ?_
              go_frame
              refine ls_ex_g (some 41) (.int .i64 c) rfl rfl (exec_move _ rfl (.int .i64 c) rfl) ?_
              go_frame
              refine ls_ex_g (some 42) (.pointer (some ⟨bb, ob + c * 1, none⟩)) rfl rfl (exec_index_slice _ 2 _ _ rfl bb ob C cb c 1 rfl rfl Try.underlying49 (by kernel_rfl) hc) ?_
              go_frame
              refine ls_ex_g (some 43) (.int .i64 E) rfl rfl (exec_load_one 2 _ rfl bb (ob + c * 1) rfl (.int .i64 E) _ Try.underlying2 rfl (RdI.c1K (((hS).rowR hbn HCb.out).rdI) HE.out)) ?_
              go_frame
              refine ls_ex_g (some 44) (.bool true) rfl rfl (exec_eql _ _ _ _ rfl E 0 rfl rfl true HZ.out) ?_
              go_frame
              refine ls_ex (some 45) (.bool true) rfl rfl (exec_pick _ _ _ rfl true rfl (.bool true) rfl) ?_
              go_frame
              refine wpList_nil ?_
              go_upto_region 7 with (fail)
              refine wp_region_lit ?_
              refine ls_ex (some 46) (.int .i64 b) rfl rfl (exec_move _ rfl (.int .i64 b) rfl) ?_
              go_frame
              refine ls_ex (some 47) (.int .i64 (b + 1)) rfl rfl (exec_add _ _ _ _ rfl b 1 (b + 1) rfl rfl (IntWalk.i64_in _ (by omega))) ?_
              go_frame
              refine ls_ex (some 8) (.int .i64 (b + 1)) rfl rfl (exec_assign _ rfl (.int .i64 (b + 1)) rfl) ?_
              go_frame
              refine wpList_nil ?_
              go_wp2_with fail
              go_roundw
              case rel => exact ⟨b + 1, by omega, by omega, by go_num, HP2, hB, h5, hS⟩
              case measure => simp [intOf] <;> omega
            · have hbn : b < n := by omega
              obtain ⟨bb, ob, cb, hb9⟩ := hS.get hbn
              have HCb : Hid (cs[0 + b * 1]? = some (.slice (some ⟨bb, ob, none⟩) C cb)) := Lib.hid (by rw [Nat.zero_add, Nat.mul_one]; exact hb9)
              clear hb9
              have HE0 := Lib.hid (HRg.out.at_ hbn hc)
              obtain ⟨E, hE, hEb⟩ := HE0.out
              have HE := Lib.hid hE
              have hEn : ent R b c = E := by unfold ent; rw [hE]; rfl
              have hPb9 : b = P := by have h9 := HPf.out; rw [pvF_some hbn hz] at h9; exact h9
              have HZ : Hid ((E == 0) = false) := Lib.hid (by simp; rw [← hEn]; exact hz)
              clear hE hEn hz HE0
              obtain ⟨wk, rfl⟩ : ∃ z : World, z = wr := ⟨_, rfl⟩
              have hPb8 : P = b := hPb9.symm
              subst hPb8
              have hSo := hS.rowR hPn HCo.out
              have hO : RdG wk hi g bo oo (R1 r) := by rw [HRr.out]; exact hSo
              have hA := hS.rowR hr HCa.out
              clear hSo hPb9
              go_upto_region 6 with (fail)
              refine wp_region_lit ?_
              refine ls_ex (some 32) (.int .i64 P) rfl rfl (exec_move _ rfl (.int .i64 P) rfl) ?_
              go_frame
              refine ls_ex (some 33) (.slice (some ⟨g, 0, none⟩) n cap) rfl rfl (exec_move _ rfl (.slice (some ⟨g, 0, none⟩) n cap) rfl) ?_
              go_frame
              refine ls_ex (some 34) (.int .i64 n) rfl rfl (exec_len _ 26 49 rfl ((some ⟨g, 0, none⟩)) n cap rfl Try.underlying26) ?_
              go_frame
              refine ls_ex (some 35) (.bool true) rfl rfl (exec_lss _ _ _ _ rfl P n rfl rfl true (decide_eq_true (by omega))) ?_
              go_frame
              refine ls_ex (some 36) (.bool true) rfl rfl (exec_move _ rfl (.bool true) rfl) ?_
              go_frame
              refine ls_ex_g (some 37) (.slice (some ⟨g, 0, none⟩) n cap) rfl rfl (exec_move _ rfl (.slice (some ⟨g, 0, none⟩) n cap) rfl) ?_
              go_frame
              refine ls_ex_g (some 38) (.int .i64 P) rfl rfl (exec_move _ rfl (.int .i64 P) rfl) ?_
              go_frame
              refine ls_ex_g (some 39) (.pointer (some ⟨g, 0 + P * 1, none⟩)) rfl rfl (exec_index_slice _ 49 _ _ rfl g 0 n cap P 1 rfl rfl Try.underlying26 (by kernel_rfl) hPn) ?_
              go_frame
              refine ls_ex_g (some 40) (.slice (some ⟨bb, ob, none⟩) C cb) rfl rfl (exec_load_one 49 _ rfl g (0 + P * 1) rfl (.slice (some ⟨bb, ob, none⟩) C cb) _ Try.underlying49 rfl (cellA h5 HCb.out)) ?_
              go_frame
              refine ls_ex_g (some 41) (.int .i64 c) rfl rfl (exec_move _ rfl (.int .i64 c) rfl) ?_
              go_frame
              refine ls_ex_g (some 42) (.pointer (some ⟨bb, ob + c * 1, none⟩)) rfl rfl (exec_index_slice _ 2 _ _ rfl bb ob C cb c 1 rfl rfl Try.underlying49 (by kernel_rfl) hc) ?_
              go_frame
              refine ls_ex_g (some 43) (.int .i64 E) rfl rfl (exec_load_one 2 _ rfl bb (ob + c * 1) rfl (.int .i64 E) _ Try.underlying2 rfl (RdI.c1K (((hS).rowR hPn HCb.out).rdI) HE.out)) ?_
              go_frame
              refine ls_ex_g (some 44) (.bool false) rfl rfl (exec_eql _ _ _ _ rfl E 0 rfl rfl false HZ.out) ?_
              go_frame
              refine ls_ex (some 45) (.bool false) rfl rfl (exec_pick _ _ _ rfl true rfl (.bool false) rfl) ?_
              go_frame
              refine wpList_nil ?_
              go_upto_region 8 with (fail)
              refine wp_region_lit ?_
              refine ls_ex (some 48) (.int .i64 P) rfl rfl (exec_move _ rfl (.int .i64 P) rfl) ?_
              go_frame
              refine ls_ex (some 49) (.slice (some ⟨g, 0, none⟩) n cap) rfl rfl (exec_move _ rfl (.slice (some ⟨g, 0, none⟩) n cap) rfl) ?_
              go_frame
              refine ls_ex (some 50) (.int .i64 n) rfl rfl (exec_len _ 26 49 rfl ((some ⟨g, 0, none⟩)) n cap rfl Try.underlying26) ?_
              go_frame
              refine ls_ex (some 51) (.bool false) rfl rfl (exec_eql _ _ _ _ rfl P n rfl rfl false (decide_eq_false (by omega))) ?_
              go_frame
              refine wpList_nil ?_
              go_upto_region 9 with (fail)
              refine wp_region_lit ?_
              refine ls_ex (some 52) (.slice (some ⟨g, 0, none⟩) n cap) rfl rfl (exec_move _ rfl (.slice (some ⟨g, 0, none⟩) n cap) rfl) ?_
              go_frame
              refine ls_ex (some 53) (.int .i64 P) rfl rfl (exec_move _ rfl (.int .i64 P) rfl) ?_
              go_frame
              refine ls_ex (some 54) (.pointer (some ⟨g, 0 + P * 1, none⟩)) rfl rfl (exec_index_slice _ 49 _ _ rfl g 0 n cap P 1 rfl rfl Try.underlying26 (by kernel_rfl) hPn) ?_
              go_frame
              refine ls_ex (some 55) (.slice (some ⟨bo, oo, none⟩) C co) rfl rfl (exec_load_one 49 _ rfl g (0 + P * 1) rfl (.slice (some ⟨bo, oo, none⟩) C co) _ Try.underlying49 rfl (cellA h5 HCo.out)) ?_
              go_frame
              refine ls_ex (some 9) (.slice (some ⟨bo, oo, none⟩) C co) rfl rfl (exec_assign _ rfl (.slice (some ⟨bo, oo, none⟩) C co) rfl) ?_
              go_frame
              refine wpList_nil ?_
              go_upto_region 10 with (fail)
              refine wp_region_lit ?_
              refine ls_ex (some 56) (.slice (some ⟨g, 0, none⟩) n cap) rfl rfl (exec_move _ rfl (.slice (some ⟨g, 0, none⟩) n cap) rfl) ?_
              go_frame
              refine ls_ex (some 57) (.int .i64 P) rfl rfl (exec_move _ rfl (.int .i64 P) rfl) ?_
              go_frame
              refine ls_ex (some 58) (.slice (some ⟨g, 0, none⟩) n cap) rfl rfl (exec_move _ rfl (.slice (some ⟨g, 0, none⟩) n cap) rfl) ?_
              go_frame
              refine ls_ex (some 59) (.int .i64 r) rfl rfl (exec_move _ rfl (.int .i64 r) rfl) ?_
              go_frame
              refine ls_ex (some 60) (.pointer (some ⟨g, 0 + r * 1, none⟩)) rfl rfl (exec_index_slice _ 49 _ _ rfl g 0 n cap r 1 rfl rfl Try.underlying26 (by kernel_rfl) (by omega)) ?_
              go_frame
              refine ls_ex (some 61) (.slice (some ⟨ba, oa, none⟩) C ca) rfl rfl (exec_load_one 49 _ rfl g (0 + r * 1) rfl (.slice (some ⟨ba, oa, none⟩) C ca) _ Try.underlying49 rfl (cellA h5 HCa.out)) ?_
              go_frame
              refine ls_ex (some 62) (.pointer (some ⟨g, 0 + P * 1, none⟩)) rfl rfl (exec_index_slice _ 49 _ _ rfl g 0 n cap P 1 rfl rfl Try.underlying26 (by kernel_rfl) hPn) ?_
              go_frame
              refine ls_op rfl (fun K' hK' => ?_)
              have lz12 := hB.size
              have lz13 := h5.lt
              refine wp_store_one 49 _ _ rfl rfl g (0 + P * 1) rfl (.slice (some ⟨ba, oa, none⟩) C ca) rfl rfl rfl _ _ h5 (by kernel_rfl) HSz1.out (fun Wz10 pz11 => ?_)
              have lS9 := hS.lts (show 0 < n by omega)
              replace hB := pz11.below hB (by omega)
              replace hS := hS.putg pz11
              replace hO := hO.putg pz11
              replace hA := hA.putg pz11
              replace h5 := pz11.at_
              replace hS := hS.setg hPn hA (HRg.out r hr).1 (c := ca) (by have := HSz1.out; omega)
              obtain ⟨cs2, hcs2⟩ : ∃ z9, cs.setIfInBounds (0 + P * 1) (.slice (some ⟨ba, oa, none⟩) C ca) = z9 := ⟨_, rfl⟩
              rw [show (cs.setIfInBounds P (.slice (some ⟨ba, oa, none⟩) C ca)) = cs2 by rw [← hcs2, Nat.zero_add, Nat.mul_one]] at hS
              rw [hcs2] at h5
              have HSz2 : Hid (0 + r * 1 < cs2.size) := Lib.hid (by rw [← hcs2, Array.size_setIfInBounds]; exact (Array.getElem?_eq_some_iff.1 HCa.out).1)
              clear hcs2 hA
              refine hK' _ _ ?_
              clear hK' K' pz11
              refine wpList_nil ?_
              go_upto_region 11 with (fail)
              refine wp_region_lit ?_
              refine ls_ex (some 63) (.slice (some ⟨g, 0, none⟩) n cap) rfl rfl (exec_move _ rfl (.slice (some ⟨g, 0, none⟩) n cap) rfl) ?_
              go_frame
              refine ls_ex (some 64) (.int .i64 r) rfl rfl (exec_move _ rfl (.int .i64 r) rfl) ?_
              go_frame
              refine ls_ex (some 65) (.slice (some ⟨bo, oo, none⟩) C co) rfl rfl (exec_move _ rfl (.slice (some ⟨bo, oo, none⟩) C co) rfl) ?_
              go_frame
              refine ls_ex (some 66) (.pointer (some ⟨g, 0 + r * 1, none⟩)) rfl rfl (exec_index_slice _ 49 _ _ rfl g 0 n cap r 1 rfl rfl Try.underlying26 (by kernel_rfl) (by omega)) ?_
              go_frame
              refine ls_op rfl (fun K' hK' => ?_)
              have lz16 := hB.size
              have lz17 := h5.lt
              refine wp_store_one 49 _ _ rfl rfl g (0 + r * 1) rfl (.slice (some ⟨bo, oo, none⟩) C co) rfl rfl rfl _ _ h5 (by kernel_rfl) HSz2.out (fun Wz14 pz15 => ?_)
              have lS9 := hS.lts (show 0 < n by omega)
              replace hB := pz15.below hB (by omega)
              replace hS := hS.putg pz15
              replace hO := hO.putg pz15
              replace h5 := pz15.at_
              replace hS := hS.setg hr hO (HRg1.out r hr).1 (c := co) (by have := HSz2.out; omega)
              obtain ⟨cs3, hcs3⟩ : ∃ z9, cs2.setIfInBounds (0 + r * 1) (.slice (some ⟨bo, oo, none⟩) C co) = z9 := ⟨_, rfl⟩
              rw [show (cs2.setIfInBounds r (.slice (some ⟨bo, oo, none⟩) C co)) = cs3 by rw [← hcs3, Nat.zero_add, Nat.mul_one], HRr.out, updR_swp, HR1.out] at hS
              rw [hcs3] at h5
              clear hcs3
              refine hK' _ _ ?_
              clear hK' K' pz15
              refine wpList_nil ?_
              go_upto_region 12 with (fail)
              refine wp_region_lit ?_
              refine ls_ex (some 67) (.int .i64 p) rfl rfl (exec_move _ rfl (.int .i64 p) rfl) ?_
              go_frame
              refine ls_ex (some 68) (.slice (some ⟨bo, oo, none⟩) C co) rfl rfl (exec_move _ rfl (.slice (some ⟨bo, oo, none⟩) C co) rfl) ?_
              go_frame
              refine ls_ex (some 69) (.int .i64 c) rfl rfl (exec_move _ rfl (.int .i64 c) rfl) ?_
              go_frame
              refine ls_ex (some 70) (.pointer (some ⟨bo, oo + c * 1, none⟩)) rfl rfl (exec_index_slice _ 2 _ _ rfl bo oo C co c 1 rfl rfl Try.underlying49 (by kernel_rfl) hc) ?_
              go_frame
              refine ls_ex (some 71) (.int .i64 Y) rfl rfl (exec_load_one 2 _ rfl bo (oo + c * 1) rfl (.int .i64 Y) _ Try.underlying2 rfl (RdI.c1K ((hO).rdI) HY.out)) ?_
              go_frame
              refine ls_op rfl (fun K' hK' => ?_)
              have lz20 := hB.size
              have lz21 := h5.lt
              refine wp_call2 (some 72) rfl 45 _ _ _ rfl (fun args w => by kernel_rfl) _ _ rfl rfl _ (l01Inverse_c p Y _ hp (by omega) hYb.2) (fun e Wz18 h => ?_)
              obtain ⟨rfl, rfl⟩ := h
              rw [HIV.out]
              refine ⟨_, rfl, ?_⟩
              refine hK' _ _ ?_
              clear hK' K'
              go_frame
              refine ls_ex (some 10) (.int .i64 IV) rfl rfl (exec_assign _ rfl (.int .i64 IV) rfl) ?_
              go_frame
              refine wpList_nil ?_
              go_upto_region 13 with (fail)
              refine wp_region_lit ?_
              refine ls_ex (some 73) (.int .i64 r) rfl rfl (exec_move _ rfl (.int .i64 r) rfl) ?_
              go_frame
              refine ls_ex (some 74) (.int .i64 (r + 1)) rfl rfl (exec_add _ _ _ _ rfl r 1 (r + 1) rfl rfl (IntWalk.i64_in _ (by omega))) ?_
              go_frame
              refine ls_ex (some 11) (.int .i64 (r + 1)) rfl rfl (exec_assign _ rfl (.int .i64 (r + 1)) rfl) ?_
              go_frame
              refine wpList_nil ?_
              go_wp2_with fail
              go_loopw [11] (fun s11 wr => ∃ (i : Nat) (cs4 : Array Value) (h4 : Nat), r + 1 ≤ i ∧ i ≤ n ∧ s11 = .int .i64 i ∧ Below w.heap.size w wr ∧ At wr g (.cells cs4 49 (0, 0)) ∧ TabS wr h4 g cs4 n C (clS p C R1 r c i) ∧ RdG wr h4 g bo oo (R1 r)) (fun s11 _ => n - (intOf s11).toNat)
              case atStart => exact ⟨r + 1, _, _, Nat.le_refl _, by omega, by go_num, hB, h5, by rw [clS_start]; exact hS, hO⟩
              case round =>
                clear hB h5 hS hO
                obtain ⟨i, cs4, h4, hle1, hle2, rfl, hB, h5, hS, hO⟩ := hrel
                by_cases hlt : i < n
                · by_cases hz : facS p (R1 i) (R1 r) c = 0
                  · have hin : i < n := hlt
                    have hri : r < i := by omega
                    obtain ⟨bi, oi, ci, hi9⟩ := hS.get hin
                    have HCi : Hid (cs4[0 + i * 1]? = some (.slice (some ⟨bi, oi, none⟩) C ci)) := Lib.hid (by rw [Nat.zero_add, Nat.mul_one]; exact hi9)
                    clear hi9
                    have hRi : clS p C R1 r c i i = R1 i := by rw [clS, if_neg (by omega)]
                    have HT0 := Lib.hid (HRg1.out.at_ hin hc)
                    obtain ⟨T, hT, hTb⟩ := HT0.out
                    have HTg : Hid ((clS p C R1 r c i i)[c]? = some T) := Lib.hid (by rw [hRi]; exact hT)
                    obtain ⟨M1, hM1⟩ : ∃ z9, T * IV = z9 := ⟨_, rfl⟩
                    have hM1b := m4c (a := T) (b := IV) (by omega) (by omega)
                    rw [hM1] at hM1b
                    have HM1 : Hid (IntKind.i64.wrap (T * IV) = M1) := Lib.hid (by rw [hM1]; exact IntWalk.i64_in _ (by omega))
                    obtain ⟨F, hF⟩ : ∃ z9, M1 % p = z9 := ⟨_, rfl⟩
                    have HF : Hid (M1.tmod p = F) := Lib.hid (by rw [Int.tmod_eq_emod_of_nonneg (by omega)]; exact hF)
                    have hFb : 0 ≤ F ∧ F < p := by rw [← hF]; exact ⟨Int.emod_nonneg _ (by omega), Int.emod_lt_of_pos _ (by omega)⟩
                    have HFac : Hid (facS p (R1 i) (R1 r) c = F) := Lib.hid (by unfold facS; rw [hT, HY.out]; simp only [Option.getD_some]; rw [hIV, hM1, hF])
                    have HZ : Hid ((F == 0) = true) := Lib.hid (by simp; rw [← HFac.out]; exact hz)
                    have HRz : Hid (clS p C R1 r c (i + 1) = clS p C R1 r c i) := Lib.hid (clS_zero hz)
                    clear hT hM1 hF HT0 hRi
                    obtain ⟨we, rfl⟩ : ∃ x : World, x = wr := ⟨_, rfl⟩
                    go_upto_region 14 with (fail)
                    refine wp_region_lit ?_
                    refine ls_ex (some 75) (.int .i64 i) rfl rfl (exec_move _ rfl (.int .i64 i) rfl) ?_
                    go_frame
                    refine ls_ex (some 76) (.slice (some ⟨g, 0, none⟩) n cap) rfl rfl (exec_move _ rfl (.slice (some ⟨g, 0, none⟩) n cap) rfl) ?_
                    go_frame
                    refine ls_ex (some 77) (.int .i64 n) rfl rfl (exec_len _ 26 49 rfl ((some ⟨g, 0, none⟩)) n cap rfl Try.underlying26) ?_
                    go_frame
                    refine ls_ex (some 78) (.bool true) rfl rfl (exec_lss _ _ _ _ rfl i n rfl rfl true (decide_eq_true (by omega))) ?_
                    go_frame
                    refine wpList_nil ?_
                    go_upto_region 16 with (fail)
                    refine wp_region_lit ?_
                    refine ls_ex (some 81) (.slice (some ⟨g, 0, none⟩) n cap) rfl rfl (exec_move _ rfl (.slice (some ⟨g, 0, none⟩) n cap) rfl) ?_
                    go_frame
                    refine ls_ex (some 82) (.int .i64 i) rfl rfl (exec_move _ rfl (.int .i64 i) rfl) ?_
                    go_frame
                    refine ls_ex (some 83) (.pointer (some ⟨g, 0 + i * 1, none⟩)) rfl rfl (exec_index_slice _ 49 _ _ rfl g 0 n cap i 1 rfl rfl Try.underlying26 (by kernel_rfl) (by omega)) ?_
                    go_frame
                    refine ls_ex (some 84) (.slice (some ⟨bi, oi, none⟩) C ci) rfl rfl (exec_load_one 49 _ rfl g (0 + i * 1) rfl (.slice (some ⟨bi, oi, none⟩) C ci) _ Try.underlying49 rfl (cellA h5 HCi.out)) ?_
                    go_frame
                    refine ls_ex (some 85) (.int .i64 c) rfl rfl (exec_move _ rfl (.int .i64 c) rfl) ?_
                    go_frame
                    refine ls_ex (some 86) (.pointer (some ⟨bi, oi + c * 1, none⟩)) rfl rfl (exec_index_slice _ 2 _ _ rfl bi oi C ci c 1 rfl rfl Try.underlying49 (by kernel_rfl) hc) ?_
                    go_frame
                    refine ls_ex (some 87) (.int .i64 T) rfl rfl (exec_load_one 2 _ rfl bi (oi + c * 1) rfl (.int .i64 T) _ Try.underlying2 rfl (RdI.c1K (((hS).rowR hin HCi.out).rdI) HTg.out)) ?_
                    go_frame
                    refine ls_ex (some 88) (.int .i64 IV) rfl rfl (exec_move _ rfl (.int .i64 IV) rfl) ?_
                    go_frame
                    refine ls_ex (some 89) (.int .i64 M1) rfl rfl (exec_mul _ _ _ _ rfl T IV M1 rfl rfl HM1.out) ?_
                    go_frame
                    refine ls_ex (some 90) (.int .i64 p) rfl rfl (exec_move _ rfl (.int .i64 p) rfl) ?_
                    go_frame
                    refine ls_ex (some 91) (.int .i64 F) rfl rfl (exec_rem _ _ _ _ rfl M1 p F rfl rfl (by omega) HF.out) ?_
                    go_frame
                    refine ls_op rfl (fun K' hK' => ?_)
                    obtain ⟨zR, hzR⟩ : ∃ z9 : Nat, we.heap.size = z9 := ⟨_, rfl⟩
                    replace hS := hS.raise
                    replace hO := hO.raise
                    rw [hzR] at hS hO
                    have lz22 := hB.size
                    have lz23 := h5.lt
                    refine wp_new (some 92) rfl (exec_bs0S rfl) (fun Wz24 nnz25 => ?_)
                    have bz26 := nnz25.below (Below.refl _ _) (Nat.le_refl _)
                    replace hB := below_after hB bz26
                    replace h5 := h5.after bz26
                    replace hS := hS.below bz26
                    replace hO := hO.below bz26
                    have hk : At Wz24 we.heap.size (.cells #[] 2 (0, 0)) := nnz25.at_
                    refine hK' _ _ ?_
                    clear hK' K' nnz25 bz26
                    go_frame
                    refine ls_ex (some 12) (.int .i64 F) rfl rfl (exec_assign _ rfl (.int .i64 F) rfl) ?_
                    go_frame
                    refine ls_ex (some 13) (.slice (some ⟨we.heap.size, 0, none⟩) 0 0) rfl rfl (exec_assign _ rfl (.slice (some ⟨we.heap.size, 0, none⟩) 0 0) rfl) ?_
                    go_frame
                    refine wpList_nil ?_
                    go_upto_region 17 with (fail)
                    refine wp_region_lit ?_
                    refine ls_ex (some 93) (.int .i64 F) rfl rfl (exec_move _ rfl (.int .i64 F) rfl) ?_
                    go_frame
                    refine ls_ex (some 94) (.bool true) rfl rfl (exec_eql _ _ _ _ rfl F 0 rfl rfl true HZ.out) ?_
                    go_frame
                    refine wpList_nil ?_
                    go_upto_region 15 with (fail)
                    refine wp_region_lit ?_
                    refine ls_ex (some 79) (.int .i64 i) rfl rfl (exec_move _ rfl (.int .i64 i) rfl) ?_
                    go_frame
                    refine ls_ex (some 80) (.int .i64 (i + 1)) rfl rfl (exec_add _ _ _ _ rfl i 1 (i + 1) rfl rfl (IntWalk.i64_in _ (by omega))) ?_
                    go_frame
                    refine ls_ex (some 11) (.int .i64 (i + 1)) rfl rfl (exec_assign _ rfl (.int .i64 (i + 1)) rfl) ?_
                    go_frame
                    refine wpList_nil ?_
                    go_wp2_with fail
                    go_roundw
                    case rel => exact ⟨i + 1, cs4, _, by omega, by omega, by go_num, hB, h5, by rw [HRz.out]; exact hS, hO⟩
                    case measure => simp [intOf] <;> omega
                  · have hin : i < n := hlt
                    have hri : r < i := by omega
                    obtain ⟨bi, oi, ci, hi9⟩ := hS.get hin
                    have HCi : Hid (cs4[0 + i * 1]? = some (.slice (some ⟨bi, oi, none⟩) C ci)) := Lib.hid (by rw [Nat.zero_add, Nat.mul_one]; exact hi9)
                    clear hi9
                    have hRi : clS p C R1 r c i i = R1 i := by rw [clS, if_neg (by omega)]
                    have HT0 := Lib.hid (HRg1.out.at_ hin hc)
                    obtain ⟨T, hT, hTb⟩ := HT0.out
                    have HTg : Hid ((clS p C R1 r c i i)[c]? = some T) := Lib.hid (by rw [hRi]; exact hT)
                    obtain ⟨M1, hM1⟩ : ∃ z9, T * IV = z9 := ⟨_, rfl⟩
                    have hM1b := m4c (a := T) (b := IV) (by omega) (by omega)
                    rw [hM1] at hM1b
                    have HM1 : Hid (IntKind.i64.wrap (T * IV) = M1) := Lib.hid (by rw [hM1]; exact IntWalk.i64_in _ (by omega))
                    obtain ⟨F, hF⟩ : ∃ z9, M1 % p = z9 := ⟨_, rfl⟩
                    have HF : Hid (M1.tmod p = F) := Lib.hid (by rw [Int.tmod_eq_emod_of_nonneg (by omega)]; exact hF)
                    have hFb : 0 ≤ F ∧ F < p := by rw [← hF]; exact ⟨Int.emod_nonneg _ (by omega), Int.emod_lt_of_pos _ (by omega)⟩
                    have HFac : Hid (facS p (R1 i) (R1 r) c = F) := Lib.hid (by unfold facS; rw [hT, HY.out]; simp only [Option.getD_some]; rw [hIV, hM1, hF])
                    have HZ : Hid ((F == 0) = false) := Lib.hid (by simp; rw [← HFac.out]; exact hz)
                    have HRs : Hid (updR (clS p C R1 r c i) i (combS p C (R1 i) (R1 r) c) = clS p C R1 r c (i + 1)) := Lib.hid (clS_step hri)
                    have HCl : Hid ((combS p C (R1 i) (R1 r) c).length = C) := Lib.hid (combS_len (HRg1.out i hin).1)
                    have HRi := Lib.hid hRi
                    have HFz : Hid (facS p (R1 i) (R1 r) c ≠ 0) := Lib.hid hz
                    obtain ⟨cs5, hcs5⟩ : ∃ z9 : Array Value → Array Value, z9 = z9 := ⟨fun x => x, rfl⟩
                    clear hT hM1 hF HT0 hRi hcs5 cs5
                    have HSz : Hid (0 + i * 1 < cs4.size) := Lib.hid (Array.getElem?_eq_some_iff.1 HCi.out).1
                    obtain ⟨we, rfl⟩ : ∃ x : World, x = wr := ⟨_, rfl⟩
                    go_upto_region 14 with (fail)
                    refine wp_region_lit ?_
                    refine ls_ex (some 75) (.int .i64 i) rfl rfl (exec_move _ rfl (.int .i64 i) rfl) ?_
                    go_frame
                    refine ls_ex (some 76) (.slice (some ⟨g, 0, none⟩) n cap) rfl rfl (exec_move _ rfl (.slice (some ⟨g, 0, none⟩) n cap) rfl) ?_
                    go_frame
                    refine ls_ex (some 77) (.int .i64 n) rfl rfl (exec_len _ 26 49 rfl ((some ⟨g, 0, none⟩)) n cap rfl Try.underlying26) ?_
                    go_frame
                    refine ls_ex (some 78) (.bool true) rfl rfl (exec_lss _ _ _ _ rfl i n rfl rfl true (decide_eq_true (by omega))) ?_
                    go_frame
                    refine wpList_nil ?_
                    go_upto_region 16 with (fail)
                    refine wp_region_lit ?_
                    refine ls_ex (some 81) (.slice (some ⟨g, 0, none⟩) n cap) rfl rfl (exec_move _ rfl (.slice (some ⟨g, 0, none⟩) n cap) rfl) ?_
                    go_frame
                    refine ls_ex (some 82) (.int .i64 i) rfl rfl (exec_move _ rfl (.int .i64 i) rfl) ?_
                    go_frame
                    refine ls_ex (some 83) (.pointer (some ⟨g, 0 + i * 1, none⟩)) rfl rfl (exec_index_slice _ 49 _ _ rfl g 0 n cap i 1 rfl rfl Try.underlying26 (by kernel_rfl) (by omega)) ?_
                    go_frame
                    refine ls_ex (some 84) (.slice (some ⟨bi, oi, none⟩) C ci) rfl rfl (exec_load_one 49 _ rfl g (0 + i * 1) rfl (.slice (some ⟨bi, oi, none⟩) C ci) _ Try.underlying49 rfl (cellA h5 HCi.out)) ?_
                    go_frame
                    refine ls_ex (some 85) (.int .i64 c) rfl rfl (exec_move _ rfl (.int .i64 c) rfl) ?_
                    go_frame
                    refine ls_ex (some 86) (.pointer (some ⟨bi, oi + c * 1, none⟩)) rfl rfl (exec_index_slice _ 2 _ _ rfl bi oi C ci c 1 rfl rfl Try.underlying49 (by kernel_rfl) hc) ?_
                    go_frame
                    refine ls_ex (some 87) (.int .i64 T) rfl rfl (exec_load_one 2 _ rfl bi (oi + c * 1) rfl (.int .i64 T) _ Try.underlying2 rfl (RdI.c1K (((hS).rowR hin HCi.out).rdI) HTg.out)) ?_
                    go_frame
                    refine ls_ex (some 88) (.int .i64 IV) rfl rfl (exec_move _ rfl (.int .i64 IV) rfl) ?_
                    go_frame
                    refine ls_ex (some 89) (.int .i64 M1) rfl rfl (exec_mul _ _ _ _ rfl T IV M1 rfl rfl HM1.out) ?_
                    go_frame
                    refine ls_ex (some 90) (.int .i64 p) rfl rfl (exec_move _ rfl (.int .i64 p) rfl) ?_
                    go_frame
                    refine ls_ex (some 91) (.int .i64 F) rfl rfl (exec_rem _ _ _ _ rfl M1 p F rfl rfl (by omega) HF.out) ?_
                    go_frame
                    refine ls_op rfl (fun K' hK' => ?_)
                    obtain ⟨zR, hzR⟩ : ∃ z9 : Nat, we.heap.size = z9 := ⟨_, rfl⟩
                    replace hS := hS.raise
                    replace hO := hO.raise
                    rw [hzR] at hS hO
                    have lz27 := hB.size
                    have lz28 := h5.lt
                    refine wp_new (some 92) rfl (exec_bs0S rfl) (fun Wz29 nnz30 => ?_)
                    have bz31 := nnz30.below (Below.refl _ _) (Nat.le_refl _)
                    replace hB := below_after hB bz31
                    replace h5 := h5.after bz31
                    replace hS := hS.below bz31
                    replace hO := hO.below bz31
                    have hk : At Wz29 we.heap.size (.cells #[] 2 (0, 0)) := nnz30.at_
                    refine hK' _ _ ?_
                    clear hK' K' nnz30 bz31
                    go_frame
                    refine ls_ex (some 12) (.int .i64 F) rfl rfl (exec_assign _ rfl (.int .i64 F) rfl) ?_
                    go_frame
                    refine ls_ex (some 13) (.slice (some ⟨we.heap.size, 0, none⟩) 0 0) rfl rfl (exec_assign _ rfl (.slice (some ⟨we.heap.size, 0, none⟩) 0 0) rfl) ?_
                    go_frame
                    refine wpList_nil ?_
                    go_upto_region 17 with (fail)
                    refine wp_region_lit ?_
                    refine ls_ex (some 93) (.int .i64 F) rfl rfl (exec_move _ rfl (.int .i64 F) rfl) ?_
                    go_frame
                    refine ls_ex (some 94) (.bool false) rfl rfl (exec_eql _ _ _ _ rfl F 0 rfl rfl false HZ.out) ?_
                    go_frame
                    refine wpList_nil ?_
                    go_upto_region 18 with (fail)
                    refine wp_region_lit ?_
                    refine ls_ex (some 14) (.int .i64 0) rfl rfl (exec_assign _ rfl (.int .i64 0) rfl) ?_
                    go_frame
                    refine wpList_nil ?_
                    go_wp2_with fail
                    go_loopw [13, 14] (fun s13 s14 wr => ∃ (k : Nat) (x9 : Value), k ≤ C ∧ x9 = s13 ∧ s14 = .int .i64 k ∧ Below w.heap.size w wr ∧ At wr g (.cells cs4 49 (0, 0)) ∧ TabS wr zR g cs4 n C (clS p C R1 r c i) ∧ RdG wr zR g bo oo (R1 r) ∧ OwnI wr zR x9 ((combS p C (R1 i) (R1 r) c).take k)) (fun _ s14 _ => C - (intOf s14).toNat)
                    case atStart => exact ⟨0, _, by omega, rfl, rfl, hB, h5, hS, hO, by rw [List.take_zero]; exact own_nilS hk (by omega)⟩
                    case round =>
                      clear hB h5 hS hO hk
                      obtain ⟨k, x9, hle3, rfl, rfl, hB, h5, hS, hO, ho⟩ := hrel
                      by_cases hlt : k < C
                      · have HE0 := Lib.hid (HRg1.out.at_ hin hlt)
                        obtain ⟨E, hE, hEb⟩ := HE0.out
                        have HN0 := Lib.hid (HRg1.out.at_ hr hlt)
                        obtain ⟨N, hN, hNb⟩ := HN0.out
                        have HEg : Hid ((clS p C R1 r c i i)[k]? = some E) := Lib.hid (by rw [HRi.out]; exact hE)
                        have HNg := Lib.hid hN
                        obtain ⟨M2, hM2⟩ : ∃ z9, F * N = z9 := ⟨_, rfl⟩
                        have hM2b := m4c (a := F) (b := N) (by omega) (by omega)
                        rw [hM2] at hM2b
                        have HM2 : Hid (IntKind.i64.wrap (F * N) = M2) := Lib.hid (by rw [hM2]; exact IntWalk.i64_in _ (by omega))
                        obtain ⟨S2, hS2⟩ : ∃ z9, E - M2 = z9 := ⟨_, rfl⟩
                        have HS2 : Hid (IntKind.i64.wrap (E - M2) = S2) := Lib.hid (by rw [hS2]; exact IntWalk.i64_in _ (by omega))
                        obtain ⟨X, hX⟩ : ∃ z9, S2 % p = z9 := ⟨_, rfl⟩
                        have HX := Lib.hid hX
                        have HT : Hid ((combS p C (R1 i) (R1 r) c).take k ++ [X] = (combS p C (R1 i) (R1 r) c).take (k + 1)) := Lib.hid (combS_step hlt HFz.out (by rw [hE, hN, HFac.out]; simp only [Option.getD_some]; rw [hM2, hS2, hX]))
                        have HLen : Hid (((combS p C (R1 i) (R1 r) c).take k).length ≤ 1000000) := Lib.hid (by simp; omega)
                        clear hE hN hM2 hS2 hX HE0 HN0
                        go_upto_region 19 with (fail)
                        refine wp_region_lit ?_
                        refine ls_ex (some 95) (.int .i64 k) rfl rfl (exec_move _ rfl (.int .i64 k) rfl) ?_
                        go_frame
                        refine ls_ex (some 96) (.slice (some ⟨bo, oo, none⟩) C co) rfl rfl (exec_move _ rfl (.slice (some ⟨bo, oo, none⟩) C co) rfl) ?_
                        go_frame
                        refine ls_ex (some 97) (.int .i64 C) rfl rfl (exec_len _ 49 2 rfl ((some ⟨bo, oo, none⟩)) C co rfl Try.underlying49) ?_
                        go_frame
                        refine ls_ex (some 98) (.bool true) rfl rfl (exec_lss _ _ _ _ rfl k C rfl rfl true (decide_eq_true (by omega))) ?_
                        go_frame
                        refine wpList_nil ?_
                        go_upto_region 21 with (fail)
                        refine wp_region_y (zs := []) (S := fun w' => Below w.heap.size w w' ∧ At w' g (.cells cs4 49 (0, 0)) ∧ TabS w' zR g cs4 n C (clS p C R1 r c i) ∧ RdG w' zR g bo oo (R1 r)) (S2 := fun w' => True) (by kernel_rfl) ?_
                        change wpAnyY _ _ _ _ _ _ _ _ _ _ (World.drew _)
                        generalize hwdz32 : World.drew _ = wdz32
                        replace hB : Below w.heap.size w wdz32 := by rw [← hwdz32]; exact hB.drew
                        replace h5 : At wdz32 g (.cells cs4 49 (0, 0)) := by rw [← hwdz32]; exact h5
                        replace hS : TabS wdz32 zR g cs4 n C (clS p C R1 r c i) := by rw [← hwdz32]; exact hS.drewM
                        replace hO : RdG wdz32 zR g bo oo (R1 r) := by rw [← hwdz32]; exact hO.drewM
                        replace ho : OwnI wdz32 zR x9 ((combS p C (R1 i) (R1 r) c).take k) := by rw [← hwdz32]; exact ho.drew
                        clear hwdz32
                        refine y_yield 0 (some 101) (x9) rfl (by kernel_rfl) (by kernel_rfl) (by kernel_rfl) (fun _ _ _ h => h) rfl rfl ⟨hB, h5, hS, hO⟩ (fun w' h' => exec_move _ rfl (x9) rfl) ?_
                        go_frame
                        refine y_yield 1 (some 102) (.int .i64 p) rfl (by kernel_rfl) (by kernel_rfl) (by kernel_rfl) (fun _ _ _ h => h) rfl rfl ⟨hB, h5, hS, hO⟩ (fun w' h' => exec_move _ rfl (.int .i64 p) rfl) ?_
                        go_frame
                        refine y_yield 2 (some 103) (.slice (some ⟨g, 0, none⟩) n cap) rfl (by kernel_rfl) (by kernel_rfl) (by kernel_rfl) (fun _ _ _ h => h) rfl rfl ⟨hB, h5, hS, hO⟩ (fun w' h' => exec_move _ rfl (.slice (some ⟨g, 0, none⟩) n cap) rfl) ?_
                        go_frame
                        refine y_yield 3 (some 104) (.int .i64 i) rfl (by kernel_rfl) (by kernel_rfl) (by kernel_rfl) (fun _ _ _ h => h) rfl rfl ⟨hB, h5, hS, hO⟩ (fun w' h' => exec_move _ rfl (.int .i64 i) rfl) ?_
                        go_frame
                        refine y_yield 4 (some 105) (.pointer (some ⟨g, 0 + i * 1, none⟩)) rfl (by kernel_rfl) (by kernel_rfl) (by kernel_rfl) (fun _ _ _ h => h) rfl rfl ⟨hB, h5, hS, hO⟩ (fun w' h' => exec_index_slice _ 49 _ _ rfl g 0 n cap i 1 rfl rfl Try.underlying26 (by kernel_rfl) (by omega)) ?_
                        go_frame
                        refine y_yield 5 (some 106) (.slice (some ⟨bi, oi, none⟩) C ci) rfl (by kernel_rfl) (by kernel_rfl) (by kernel_rfl) (fun _ _ _ h => h) rfl rfl ⟨hB, h5, hS, hO⟩ (fun w' h' => exec_load_one 49 _ rfl g (0 + i * 1) rfl (.slice (some ⟨bi, oi, none⟩) C ci) _ Try.underlying49 rfl (cellA h'.2.1 HCi.out)) ?_
                        go_frame
                        refine y_yield 6 (some 107) (.int .i64 k) rfl (by kernel_rfl) (by kernel_rfl) (by kernel_rfl) (fun _ _ _ h => h) rfl rfl ⟨hB, h5, hS, hO⟩ (fun w' h' => exec_move _ rfl (.int .i64 k) rfl) ?_
                        go_frame
                        refine y_yield 7 (some 108) (.pointer (some ⟨bi, oi + k * 1, none⟩)) rfl (by kernel_rfl) (by kernel_rfl) (by kernel_rfl) (fun _ _ _ h => h) rfl rfl ⟨hB, h5, hS, hO⟩ (fun w' h' => exec_index_slice _ 2 _ _ rfl bi oi C ci k 1 rfl rfl Try.underlying49 (by kernel_rfl) hlt) ?_
                        go_frame
                        refine y_yield 8 (some 109) (.int .i64 E) rfl (by kernel_rfl) (by kernel_rfl) (by kernel_rfl) (fun _ _ _ h => h) rfl rfl ⟨hB, h5, hS, hO⟩ (fun w' h' => exec_load_one 2 _ rfl bi (oi + k * 1) rfl (.int .i64 E) _ Try.underlying2 rfl (RdI.c1K (((h'.2.2.1).rowR hin HCi.out).rdI) HEg.out)) ?_
                        go_frame
                        refine y_yield 9 (some 110) (.int .i64 F) rfl (by kernel_rfl) (by kernel_rfl) (by kernel_rfl) (fun _ _ _ h => h) rfl rfl ⟨hB, h5, hS, hO⟩ (fun w' h' => exec_move _ rfl (.int .i64 F) rfl) ?_
                        go_frame
                        refine y_yield 10 (some 111) (.slice (some ⟨bo, oo, none⟩) C co) rfl (by kernel_rfl) (by kernel_rfl) (by kernel_rfl) (fun _ _ _ h => h) rfl rfl ⟨hB, h5, hS, hO⟩ (fun w' h' => exec_move _ rfl (.slice (some ⟨bo, oo, none⟩) C co) rfl) ?_
                        go_frame
                        refine y_yield 11 (some 112) (.int .i64 k) rfl (by kernel_rfl) (by kernel_rfl) (by kernel_rfl) (fun _ _ _ h => h) rfl rfl ⟨hB, h5, hS, hO⟩ (fun w' h' => exec_move _ rfl (.int .i64 k) rfl) ?_
                        go_frame
                        refine y_yield 12 (some 113) (.pointer (some ⟨bo, oo + k * 1, none⟩)) rfl (by kernel_rfl) (by kernel_rfl) (by kernel_rfl) (fun _ _ _ h => h) rfl rfl ⟨hB, h5, hS, hO⟩ (fun w' h' => exec_index_slice _ 2 _ _ rfl bo oo C co k 1 rfl rfl Try.underlying49 (by kernel_rfl) hlt) ?_
                        go_frame
                        refine y_yield 13 (some 114) (.int .i64 N) rfl (by kernel_rfl) (by kernel_rfl) (by kernel_rfl) (fun _ _ _ h => h) rfl rfl ⟨hB, h5, hS, hO⟩ (fun w' h' => exec_load_one 2 _ rfl bo (oo + k * 1) rfl (.int .i64 N) _ Try.underlying2 rfl (RdI.c1K ((h'.2.2.2).rdI) HNg.out)) ?_
                        go_frame
                        refine y_yield 14 (some 115) (.int .i64 M2) rfl (by kernel_rfl) (by kernel_rfl) (by kernel_rfl) (fun _ _ _ h => h) rfl rfl ⟨hB, h5, hS, hO⟩ (fun w' h' => exec_mul _ _ _ _ rfl F N M2 rfl rfl HM2.out) ?_
                        go_frame
                        refine y_yield 15 (some 116) (.int .i64 S2) rfl (by kernel_rfl) (by kernel_rfl) (by kernel_rfl) (fun _ _ _ h => h) rfl rfl ⟨hB, h5, hS, hO⟩ (fun w' h' => exec_sub _ _ _ _ rfl E M2 S2 rfl rfl HS2.out) ?_
                        go_frame
                        refine y_oper 16 (by kernel_rfl) rfl rfl (fun K' hK' => ?_)
                        have lz35 := hB.size
                        have lz36 := h5.lt
                        refine wp_call2 (some 117) rfl 46 _ _ _ rfl (fun args w => by kernel_rfl) _ _ rfl rfl _ (l01Mod_c p S2 _ (by omega) (by omega)) (fun e Wz33 h => ?_)
                        obtain ⟨rfl, rfl⟩ := h
                        rw [HX.out]
                        refine ⟨_, rfl, ?_⟩
                        refine hK' _ _ ⟨hB, h5, hS, hO⟩ (fun _ => trivial) ?_
                        clear hK' K'
                        go_frame
                        refine y_oper 17 (by kernel_rfl) rfl rfl (fun K' hK' => ?_)
                        have lz37 := hB.size
                        have lz38 := h5.lt
                        have naz43 := ho.away_new
                        refine wp_new (some 118) rfl (exec_bsi1 _ rfl X rfl) (fun Wz39 nnz40 => ?_)
                        have bz41 := nnz40.below (Below.refl _ _) (Nat.le_refl _)
                        replace hB := below_after hB bz41
                        replace h5 := h5.after bz41
                        replace hS := hS.below bz41
                        replace hO := hO.below bz41
                        replace ho := ho.below bz41
                        have hz42 : At Wz39 wdz32.heap.size (.cells #[.int .i64 X] 2 (0, 0)) := nnz40.at_
                        refine hK' _ _ ⟨hB, h5, hS, hO⟩ (fun _ => trivial) ?_
                        clear hK' K' nnz40 bz41
                        go_frame
                        refine y_oper 18 (by kernel_rfl) rfl rfl (fun K' hK' => ?_)
                        have lz47 := hB.size
                        have lz48 := h5.lt
                        have lz49 := hz42.lt
                        refine wp_appI1 (some 119) rfl _ _ rfl x9 ((combS p C (R1 i) (R1 r) c).take k) X rfl ho wdz32.heap.size rfl hz42 HLen.out (by have := hS.lts (show 0 < n by omega); omega) (fun x8 Wz44 noz46 grz45 => ?_)
                        rw [HT.out] at noz46
                        have lz9 := hS.lts (show 0 < n by omega)
                        replace hB := below_grownI hB grz45 ho (by omega)
                        replace hS := hS.grown grz45 (fun k9 hk9 => (ho.lt hk9).1) grz45.size
                        replace hO := hO.grown grz45 (fun k9 hk9 => (ho.lt hk9).1) grz45.size
                        replace h5 := h5.grown grz45 (ho.off h5 (by decide))
                        replace ho := noz46
                        refine hK' _ _ ⟨hB, h5, hS, hO⟩ (fun _ => trivial) ?_
                        clear hK' K' grz45 hz42
                        go_frame
                        refine y_oper 19 (by kernel_rfl) rfl rfl (fun K' hK' => ?_)
                        refine wp_exec (some 13) rfl (x8) (exec_assign _ rfl (x8) rfl) ?_
                        refine hK' _ _ ⟨hB, h5, hS, hO⟩ (fun _ => trivial) ?_
                        clear hK' K'
                        go_frame
                        refine y_done (by kernel_rfl) ?_ _
                        go_upto_region 20 with (fail)
                        refine wp_region_lit ?_
                        refine ls_ex (some 99) (.int .i64 k) rfl rfl (exec_move _ rfl (.int .i64 k) rfl) ?_
                        go_frame
                        refine ls_ex (some 100) (.int .i64 (k + 1)) rfl rfl (exec_add _ _ _ _ rfl k 1 (k + 1) rfl rfl (IntWalk.i64_in _ (by omega))) ?_
                        go_frame
                        refine ls_ex (some 14) (.int .i64 (k + 1)) rfl rfl (exec_assign _ rfl (.int .i64 (k + 1)) rfl) ?_
                        go_frame
                        refine wpList_nil ?_
                        go_wp2_with fail
                        go_roundw
                        case rel => exact ⟨k + 1, x8, by omega, rfl, by go_num, hB, h5, hS, hO, ho⟩
                        case measure => simp [intOf] <;> omega
                      · obtain ⟨wy, rfl⟩ : ∃ x : World, x = wr := ⟨_, rfl⟩
                        rw [show (combS p C (R1 i) (R1 r) c).take k = (combS p C (R1 i) (R1 r) c) by rw [show k = C by omega]; exact List.take_of_length_le (by rw [HCl.out]; exact Nat.le_refl _)] at ho
                        obtain ⟨g9, c9, rfl, hc9, hg9⟩ := ho.openK HCl.out (by omega)
                        go_upto_region 19 with (fail)
                        refine wp_region_lit ?_
                        refine ls_ex (some 95) (.int .i64 k) rfl rfl (exec_move _ rfl (.int .i64 k) rfl) ?_
                        go_frame
                        refine ls_ex (some 96) (.slice (some ⟨bo, oo, none⟩) C co) rfl rfl (exec_move _ rfl (.slice (some ⟨bo, oo, none⟩) C co) rfl) ?_
                        go_frame
                        refine ls_ex (some 97) (.int .i64 C) rfl rfl (exec_len _ 49 2 rfl ((some ⟨bo, oo, none⟩)) C co rfl Try.underlying49) ?_
                        go_frame
                        refine ls_ex (some 98) (.bool false) rfl rfl (exec_lss _ _ _ _ rfl k C rfl rfl false (decide_eq_false (by omega))) ?_
                        go_frame
                        refine wpList_nil ?_
                        go_upto_region 22 with (fail)
                        refine wp_region_lit ?_
                        refine ls_ex (some 120) (.slice (some ⟨g, 0, none⟩) n cap) rfl rfl (exec_move _ rfl (.slice (some ⟨g, 0, none⟩) n cap) rfl) ?_
                        go_frame
                        refine ls_ex (some 121) (.int .i64 i) rfl rfl (exec_move _ rfl (.int .i64 i) rfl) ?_
                        go_frame
                        refine ls_ex (some 122) (.slice (some ⟨g9, 0, none⟩) C c9) rfl rfl (exec_move _ rfl (.slice (some ⟨g9, 0, none⟩) C c9) rfl) ?_
                        go_frame
                        refine ls_ex (some 123) (.pointer (some ⟨g, 0 + i * 1, none⟩)) rfl rfl (exec_index_slice _ 49 _ _ rfl g 0 n cap i 1 rfl rfl Try.underlying26 (by kernel_rfl) (by omega)) ?_
                        go_frame
                        refine ls_op rfl (fun K' hK' => ?_)
                        have lz52 := hB.size
                        have lz53 := h5.lt
                        have lS9 := hS.lts (show 0 < n by omega)
                        refine wp_store_one 49 _ _ rfl rfl g (0 + i * 1) rfl (.slice (some ⟨g9, 0, none⟩) C c9) rfl rfl rfl _ _ h5 (by kernel_rfl) HSz.out (fun Wz50 pz51 => ?_)
                        replace hB := pz51.below hB (by omega)
                        replace hS := (hS.putg pz51).raise
                        replace hO := (hO.putg pz51).raise
                        replace ho := ho.put pz51 (ho.ne_lt (by omega))
                        replace h5 := pz51.at_
                        have lN9 : Wz50.heap.size = wy.heap.size := (pz51.size (n := wy.heap.size) rfl)
                        have hN9 : RdG Wz50 Wz50.heap.size g g9 0 (combS p C (R1 i) (R1 r) c) := ⟨Nat.le_refl _, by omega, by have h9 := (ho.lt (g := g9) rfl).2; omega, by omega, ho.rd'⟩
                        replace hS := hS.setg hin hN9 HCl.out (c := c9) (by have := HSz.out; omega)
                        rw [HRs.out] at hS
                        obtain ⟨cs5, hcs5⟩ : ∃ z9, cs4.setIfInBounds (0 + i * 1) (.slice (some ⟨g9, 0, none⟩) C c9) = z9 := ⟨_, rfl⟩
                        rw [show (cs4.setIfInBounds i (.slice (some ⟨g9, 0, none⟩) C c9)) = cs5 by rw [← hcs5, Nat.zero_add, Nat.mul_one]] at hS
                        rw [hcs5] at h5
                        clear hcs5 ho hN9
                        refine hK' _ _ ?_
                        clear hK' K' pz51
                        refine wpList_nil ?_
                        go_upto_region 15 with (fail)
                        refine wp_region_lit ?_
                        refine ls_ex (some 79) (.int .i64 i) rfl rfl (exec_move _ rfl (.int .i64 i) rfl) ?_
                        go_frame
                        refine ls_ex (some 80) (.int .i64 (i + 1)) rfl rfl (exec_add _ _ _ _ rfl i 1 (i + 1) rfl rfl (IntWalk.i64_in _ (by omega))) ?_
                        go_frame
                        refine ls_ex (some 11) (.int .i64 (i + 1)) rfl rfl (exec_assign _ rfl (.int .i64 (i + 1)) rfl) ?_
                        go_frame
                        refine wpList_nil ?_
                        go_wp2_with fail
                        go_roundw
                        case rel => exact ⟨i + 1, cs5, _, by omega, by omega, by go_num, hB, h5, hS, hO⟩
                        case measure => simp [intOf] <;> omega
                · have hni : i = n := by omega
                  rw [hni] at hS
                  obtain ⟨wx, rfl⟩ : ∃ x : World, x = wr := ⟨_, rfl⟩
                  go_upto_region 14 with (fail)
                  refine wp_region_lit ?_
                  refine ls_ex (some 75) (.int .i64 i) rfl rfl (exec_move _ rfl (.int .i64 i) rfl) ?_
                  go_frame
                  refine ls_ex (some 76) (.slice (some ⟨g, 0, none⟩) n cap) rfl rfl (exec_move _ rfl (.slice (some ⟨g, 0, none⟩) n cap) rfl) ?_
                  go_frame
                  refine ls_ex (some 77) (.int .i64 n) rfl rfl (exec_len _ 26 49 rfl ((some ⟨g, 0, none⟩)) n cap rfl Try.underlying26) ?_
                  go_frame
                  refine ls_ex (some 78) (.bool false) rfl rfl (exec_lss _ _ _ _ rfl i n rfl rfl false (decide_eq_false (by omega))) ?_
                  go_frame
                  refine wpList_nil ?_
                  go_upto_region 23 with (fail)
                  refine wp_region_lit ?_
                  refine ls_ex (some 124) (.int .i64 r) rfl rfl (exec_move _ rfl (.int .i64 r) rfl) ?_
                  go_frame
                  refine ls_ex (some 125) (.int .i64 (r + 1)) rfl rfl (exec_add _ _ _ _ rfl r 1 (r + 1) rfl rfl (IntWalk.i64_in _ (by omega))) ?_
                  go_frame
                  refine ls_ex (some 6) (.int .i64 (r + 1)) rfl rfl (exec_assign _ rfl (.int .i64 (r + 1)) rfl) ?_
                  go_frame
                  refine wpList_nil ?_
                  go_upto_region 4 with (fail)
                  refine wp_region_lit ?_
                  refine ls_ex (some 29) (.int .i64 c) rfl rfl (exec_move _ rfl (.int .i64 c) rfl) ?_
                  go_frame
                  refine ls_ex (some 30) (.int .i64 (c + 1)) rfl rfl (exec_add _ _ _ _ rfl c 1 (c + 1) rfl rfl (IntWalk.i64_in _ (by omega))) ?_
                  go_frame
                  refine ls_ex (some 7) (.int .i64 (c + 1)) rfl rfl (exec_assign _ rfl (.int .i64 (c + 1)) rfl) ?_
                  go_frame
                  refine wpList_nil ?_
                  go_wp2_with fail
                  go_roundw
                  case rel => exact ⟨c + 1, r + 1, cs4, h4, _, by omega, by go_num, by go_num, HR2, hB, h5, hS⟩
                  case measure => simp [intOf] <;> omega
          · exact absurd (by have h9 := HPf.out; rw [show b = n by omega, pvF_end] at h9; omega) (show ¬ P = n by omega)
    · have HRz : Hid ((rkS p n C R0 C).2 = r) := Lib.hid (by have h9 := HRk.out; rw [show c = C by omega] at h9; rw [h9])
      obtain ⟨bz, oz, cz, hz9⟩ := hS.get (show 0 < n by omega)
      have HCz : Hid (cs[0 + 0 * 1]? = some (.slice (some ⟨bz, oz, none⟩) C cz)) := Lib.hid (by rw [Nat.zero_add, Nat.mul_one]; exact hz9)
      clear hz9
      go_upto_region 3 with (fail)
      refine wp_region_lit ?_
      refine ls_ex (some 18) (.slice (some ⟨g, 0, none⟩) n cap) rfl rfl (exec_move _ rfl (.slice (some ⟨g, 0, none⟩) n cap) rfl) ?_
      go_frame
      refine ls_ex (some 19) (.int .i64 n) rfl rfl (exec_len _ 26 49 rfl ((some ⟨g, 0, none⟩)) n cap rfl Try.underlying26) ?_
      go_frame
      refine ls_ex (some 20) (.bool true) rfl rfl (exec_gtr _ _ _ _ rfl n 0 rfl rfl true (decide_eq_true (by omega))) ?_
      go_frame
      refine ls_ex (some 21) (.bool true) rfl rfl (exec_move _ rfl (.bool true) rfl) ?_
      go_frame
      refine ls_ex_g (some 22) (.int .i64 c) rfl rfl (exec_move _ rfl (.int .i64 c) rfl) ?_
      go_frame
      refine ls_ex_g (some 23) (.slice (some ⟨g, 0, none⟩) n cap) rfl rfl (exec_move _ rfl (.slice (some ⟨g, 0, none⟩) n cap) rfl) ?_
      go_frame
      refine ls_ex_g (some 24) (.pointer (some ⟨g, 0 + 0 * 1, none⟩)) rfl rfl (exec_index_slice _ 49 _ _ rfl g 0 n cap 0 1 rfl rfl Try.underlying26 (by kernel_rfl) (by omega)) ?_
      go_frame
      refine ls_ex_g (some 25) (.slice (some ⟨bz, oz, none⟩) C cz) rfl rfl (exec_load_one 49 _ rfl g (0 + 0 * 1) rfl (.slice (some ⟨bz, oz, none⟩) C cz) _ Try.underlying49 rfl (cellA h5 HCz.out)) ?_
      go_frame
      refine ls_ex_g (some 26) (.int .i64 C) rfl rfl (exec_len _ 49 2 rfl ((some ⟨bz, oz, none⟩)) C cz rfl Try.underlying49) ?_
      go_frame
      refine ls_ex_g (some 27) (.bool false) rfl rfl (exec_lss _ _ _ _ rfl c C rfl rfl false (decide_eq_false (by omega))) ?_
      go_frame
      refine ls_ex (some 28) (.bool false) rfl rfl (exec_pick _ _ _ rfl true rfl (.bool false) rfl) ?_
      go_frame
      refine wpList_nil ?_
      go_upto_region 24 with (fail)
      refine wp_region_lit ?_
      refine ls_ex (some 126) (.int .i64 r) rfl rfl (exec_move _ rfl (.int .i64 r) rfl) ?_
      go_frame
      refine ls_ex (some 4) (.int .i64 r) rfl rfl (exec_assign _ rfl (.int .i64 r) rfl) ?_
      go_frame
      refine wpList_nil ?_
      go_wp2_with fail
      go_ret
      exact ⟨by rw [HRz.out]; rfl, hB⟩
end Go.Proofs.Ytebmkmkhfhmfbaa
