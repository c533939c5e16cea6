/-
  FactorsOfSimple of both sides. (Made by mksf4.py.)
-/
import Derived.Test.YtcfgpjkdonidgaaSf3
import Derived.Test.YtcfgpjkdonidgaaTen1
namespace Go.Proofs.Ytcfgpjkdonidgaa
open Go.RowKit
set_option maxRecDepth 100000
structure VB (w : World) (lo hi g : Nat) (cs : Array Value) (gs caps : Nat → Nat) (os : Nat → Array Value) (n : Nat) (row : Nat → List Int) : Prop where
  out : At w g (.cells cs 22 (0, 0))
  og : lo ≤ g ∧ g < hi
  cell : ∀ i, i < n → cs[i]? = some (.slice (some ⟨gs i, 0, none⟩) (row i).length (caps i))
  rowA : ∀ i, i < n → At w (gs i) (.cells (os i) 2 (0, 0)) ∧ lo ≤ gs i ∧ gs i < hi
  nums : ∀ i, i < n → ∀ (t : Nat) (X : Int), (row i)[t]? = some X → (os i)[t]? = some (.int .i64 X)
def OwnV (w : World) (lo hi : Nat) (v : Value) (n : Nat) (row : Nat → List Int) : Prop :=
  (v = .slice none 0 0 ∧ n = 0) ∨ ∃ g c cs gs caps os, v = .slice (some ⟨g, 0, none⟩) n c ∧ VB w lo hi g cs gs caps os n row
theorem OwnV.nil (w : World) (lo hi : Nat) (row : Nat → List Int) : OwnV w lo hi (.slice none 0 0) 0 row := .inl ⟨rfl, rfl⟩
section
variable {w w' : World} {lo hi lo' hi' g n : Nat} {cs : Array Value} {gs caps : Nat → Nat} {os : Nat → Array Value} {row : Nat → List Int} {v : Value}
theorem VB.keepR (h : VB w lo hi g cs gs caps os n row) (keep : ∀ x o, lo ≤ x → x < hi → At w x o → At w' x o) : VB w' lo hi g cs gs caps os n row :=
  ⟨keep _ _ h.og.1 h.og.2 h.out, h.og, h.cell, fun i hi => ⟨keep _ _ (h.rowA i hi).2.1 (h.rowA i hi).2.2 (h.rowA i hi).1, (h.rowA i hi).2⟩, h.nums⟩
theorem OwnV.below (h : OwnV w lo hi v n row) (hb : Below w.heap.size w w') : OwnV w' lo hi v n row := by
  rcases h with h0 | ⟨g, c, cs, gs, caps, os, hv, hm⟩
  · exact .inl h0
  · exact .inr ⟨g, c, cs, gs, caps, os, hv, hm.keepR fun _ _ _ _ hx => hx.after hb⟩
theorem OwnV.same (h : OwnV w lo hi v n row) (hs : Same lo' hi' w w') (hd : hi ≤ lo' ∨ hi' ≤ lo) : OwnV w' lo hi v n row := by
  rcases h with h0 | ⟨g, c, cs, gs, caps, os, hv, hm⟩
  · exact .inl h0
  · exact .inr ⟨g, c, cs, gs, caps, os, hv, hm.keepR fun x _ h1 h2 hx => (hs.block x hx.lt (by omega)).trans hx⟩
theorem OwnV.drewN (h : OwnV w lo hi v n row) (j : Nat) : OwnV (w.drewN j) lo hi v n row := h.below (below_drawn (Below.refl _ _) j)
theorem RdI.of_os {o : Array Value} {xs : List Int} (h : At w g (.cells o 2 (0, 0))) (hn : ∀ (t : Nat) (X : Int), xs[t]? = some X → o[t]? = some (.int .i64 X)) : RdI w (some ⟨g, 0, none⟩) xs := by
  refine .inr ⟨g, 0, rfl, fun i x hi => ?_⟩
  rw [h.at_, Nat.zero_add]
  exact hn i x hi
theorem OwnV.rd (h : OwnV w lo hi v n row) : ∃ A c, v = .slice A n c ∧ RdM w A n row := by
  rcases h with ⟨rfl, rfl⟩ | ⟨g, c, cs, gs, caps, os, rfl, hm⟩
  · exact ⟨none, 0, rfl, .inl rfl⟩
  · exact ⟨_, _, rfl, .inr ⟨g, 0, rfl, fun i hi => ⟨_, _, by rw [hm.out.at_, Nat.zero_add, hm.cell i hi], RdI.of_os (hm.rowA i hi).1 (hm.nums i hi)⟩⟩⟩
theorem OwnV.rd' {A : Option Addr} {c m : Nat} (h : OwnV w lo hi (.slice A m c) n row) : RdM w A n row := by
  obtain ⟨A', c', e, hr⟩ := h.rd
  simp only [Value.slice.injEq] at e
  rw [e.1]
  exact hr
theorem OwnV.mono (h : OwnV w lo hi v n row) (hl : lo' ≤ lo) (hh : hi ≤ hi') : OwnV w lo' hi' v n row := by
  rcases h with h0 | ⟨g, c, cs, gs, caps, os, hv, hm⟩
  · exact .inl h0
  · exact .inr ⟨g, c, cs, gs, caps, os, hv, hm.out, ⟨Nat.le_trans hl hm.og.1, Nat.lt_of_lt_of_le hm.og.2 hh⟩, hm.cell, fun i hi => ⟨(hm.rowA i hi).1, Nat.le_trans hl (hm.rowA i hi).2.1, Nat.lt_of_lt_of_le (hm.rowA i hi).2.2 hh⟩, hm.nums⟩
/-- The call answers these lists, in memory of its own that may have more room, and this code. -/
def ResV (w : World) (n : Nat) (row : Nat → List Int) (code : Int) (e : Ending) (w' : World) : Prop :=
  ∃ v, e = .returned (.tuple #[v, .int .i64 code]) ∧ OwnV w' w.heap.size w'.heap.size v n row ∧ Below w.heap.size w w'
def OwnQ (w : World) (lo : Nat) (v : Value) (n : Nat) (row : Nat → List Int) : Prop := ∃ hi, hi ≤ w.heap.size ∧ OwnM w lo hi v n row
def OwnU (w : World) (lo : Nat) (v : Value) (n : Nat) (row : Nat → List Int) : Prop := ∃ hi, hi ≤ w.heap.size ∧ OwnV w lo hi v n row
theorem OwnQ.below (h : OwnQ w lo v n row) (hb : Below w.heap.size w w') : OwnQ w' lo v n row := by
  obtain ⟨hi, h1, h2⟩ := h
  exact ⟨hi, Nat.le_trans h1 hb.size, h2.below hb⟩
theorem OwnU.below (h : OwnU w lo v n row) (hb : Below w.heap.size w w') : OwnU w' lo v n row := by
  obtain ⟨hi, h1, h2⟩ := h
  exact ⟨hi, Nat.le_trans h1 hb.size, h2.below hb⟩
theorem OwnQ.drew (h : OwnQ w lo v n row) : OwnQ w.drew lo v n row := h.below (Below.refl _ _).drew
theorem OwnU.drew (h : OwnU w lo v n row) : OwnU w.drew lo v n row := h.below (Below.refl _ _).drew
end
def tri {α : Type} (x y z : α) : Nat → α
  | 0 => x
  | 1 => y
  | _ => z
theorem three {P : Nat → Prop} (h0 : P 0) (h1 : P 1) (h2 : P 2) (i : Nat) (hi : i < 3) : P i := by
  rcases i with _ | _ | _ | i
  · exact h0
  · exact h1
  · exact h2
  · omega
theorem matB3 {w : World} {lo hi g gu gv gw a b d : Nat} {u v z : List Int} (ha : u.length = a) (hb : v.length = b) (hd : z.length = d)
    (h : At w g (.cells #[.slice (some ⟨gu, 0, none⟩) a a, .slice (some ⟨gv, 0, none⟩) b b, .slice (some ⟨gw, 0, none⟩) d d] 22 (0, 0)))
    (hu : At w gu (.cells (iar u) 2 (0, 0))) (hv : At w gv (.cells (iar v) 2 (0, 0))) (hz : At w gw (.cells (iar z) 2 (0, 0)))
    (hl : lo ≤ g ∧ lo ≤ gu ∧ lo ≤ gv ∧ lo ≤ gw) (hh : hi = w.heap.size) (hn : gu ≠ gv ∧ gu ≠ gw ∧ gv ≠ gw) :
    MatB w lo hi g #[.slice (some ⟨gu, 0, none⟩) a a, .slice (some ⟨gv, 0, none⟩) b b, .slice (some ⟨gw, 0, none⟩) d d] (tri gu gv gw) 3 (tri u v z) := by
  subst hh
  subst ha
  subst hb
  subst hd
  refine ⟨h, ⟨hl.1, h.lt⟩, ?_, ?_, ?_⟩
  · exact three (P := fun i => _) rfl rfl rfl
  · exact three (P := fun i => At w (tri gu gv gw i) (.cells (iar (tri u v z i)) 2 (0, 0)) ∧ lo ≤ tri gu gv gw i ∧ tri gu gv gw i < w.heap.size) ⟨hu, hl.2.1, hu.lt⟩ ⟨hv, hl.2.2.1, hv.lt⟩ ⟨hz, hl.2.2.2, hz.lt⟩
  · intro i j hij hj
    have h3 : (i = 0 ∧ j = 1) ∨ (i = 0 ∧ j = 2) ∨ (i = 1 ∧ j = 2) := by omega
    rcases h3 with ⟨rfl, rfl⟩ | ⟨rfl, rfl⟩ | ⟨rfl, rfl⟩
    · exact hn.1
    · exact hn.2.1
    · exact hn.2.2
theorem vB3 {w : World} {lo hi g gu gv gw a b d cu cv cw : Nat} {ku kv kw : Array Value} {u v z : List Int} (ha : u.length = a) (hb : v.length = b) (hd : z.length = d)
    (h : At w g (.cells #[.slice (some ⟨gu, 0, none⟩) a cu, .slice (some ⟨gv, 0, none⟩) b cv, .slice (some ⟨gw, 0, none⟩) d cw] 22 (0, 0)))
    (hu : At w gu (.cells ku 2 (0, 0))) (hv : At w gv (.cells kv 2 (0, 0))) (hz : At w gw (.cells kw 2 (0, 0)))
    (nu : ∀ (t : Nat) (X : Int), u[t]? = some X → ku[t]? = some (.int .i64 X)) (nv : ∀ (t : Nat) (X : Int), v[t]? = some X → kv[t]? = some (.int .i64 X)) (nz : ∀ (t : Nat) (X : Int), z[t]? = some X → kw[t]? = some (.int .i64 X))
    (hl : lo ≤ g ∧ lo ≤ gu ∧ lo ≤ gv ∧ lo ≤ gw) (hh : hi = w.heap.size) :
    VB w lo hi g #[.slice (some ⟨gu, 0, none⟩) a cu, .slice (some ⟨gv, 0, none⟩) b cv, .slice (some ⟨gw, 0, none⟩) d cw] (tri gu gv gw) (tri cu cv cw) (tri ku kv kw) 3 (tri u v z) := by
  subst hh
  subst ha
  subst hb
  subst hd
  refine ⟨h, ⟨hl.1, h.lt⟩, ?_, ?_, ?_⟩
  · exact three (P := fun i => _) rfl rfl rfl
  · exact three (P := fun i => At w (tri gu gv gw i) (.cells (tri ku kv kw i) 2 (0, 0)) ∧ lo ≤ tri gu gv gw i ∧ tri gu gv gw i < w.heap.size) ⟨hu, hl.2.1, hu.lt⟩ ⟨hv, hl.2.2.1, hv.lt⟩ ⟨hz, hl.2.2.2, hz.lt⟩
  · exact three (P := fun i => ∀ (t : Nat) (X : Int), (tri u v z i)[t]? = some X → (tri ku kv kw i)[t]? = some (.int .i64 X)) nu nv nz
theorem tot3 (u v z : List Int) : tot (tri u v z) 3 = u.length + v.length + z.length := by
  simp [tot, tri]
attribute [local irreducible] wpList
/-- What FactorsOfSimple answers: how many lists, which, and the code. -/
def fsN (p a b d : Int) (xs : List Int) : Nat := if siB p a b d xs = true then 3 else 0
def fsR (p a b d : Int) (xs : List Int) : Nat → List Int := tri (sfU p a.toNat b.toNat d.toNat xs (xs.findIdx (fun x => x != 0))) (sfV p b.toNat d.toNat xs (xs.findIdx (fun x => x != 0))) (sfW b.toNat d.toNat xs (xs.findIdx (fun x => x != 0)))
def fsCode (p a b d : Int) (xs : List Int) : Int := if tenB p a b d xs = true then (if siB p a b d xs = true then 0 else 5) else 1
theorem fsR_eq {p : Int} {a b d : Nat} {xs : List Int} {t : Nat} (h : nzP xs t) : fsR p a b d xs = tri (sfU p a b d xs t) (sfV p b d xs t) (sfW b d xs t) := by
  unfold fsR
  rw [nzP_find h, Int.toNat_natCast, Int.toNat_natCast, Int.toNat_natCast]
theorem siB_ten {p a b d : Int} {xs : List Int} (h : siB p a b d xs = true) : tenB p a b d xs = true := by
  unfold siB at h
  rw [Bool.and_eq_true] at h
  exact h.1
theorem fs_ok {p a b d : Int} {xs : List Int} : fsN p a b d xs + tot (fsR p a b d xs) (fsN p a b d xs) ≤ 1048576 := by
  unfold fsN
  split
  · next h =>
    have hs := siB_ten h
    obtain ⟨a, b, d, rfl, rfl, rfl⟩ := ten_natsS hs
    have hd := (ten_parts hs).2
    unfold fsR
    rw [tot3]
    simp only [sfU, sfV, sfW, facL_len, Int.toNat_natCast]
    omega
  · simp [tot]
theorem specFacY_w (p : Int) (a b d : Nat) (bB oB c N : Nat) (xs : List Int) (w : World) (hX : RdI w (some ⟨bB, oB, none⟩) xs) (hxl : xs.length = N) (hs : tenB p a b d xs = true) (hR : siB p a b d xs = true) :
    Calls Try.prog 18 #[.agg #[.int .i64 p, .int .i64 a, .int .i64 b, .int .i64 d, .slice (some ⟨bB, oB, none⟩) N c]] w fun e w' => ∃ v, e = .returned (.tuple #[v, .bool true]) ∧ OwnU w' w.heap.size v 3 (fsR p a b d xs) ∧ Below w.heap.size w w' := by
  rcases nz_cases xs with hn | ⟨t0, ht⟩
  · rw [siB_no hn] at hR
    cases hR
  · refine (sfsYes_c p a b d bB oB c N xs w hX hxl hs t0 ht).mono ?_
    intro e w' h
    rcases h with ⟨h0, rfl, hb⟩ | ⟨h0, g, gu, gv, gw, cu, cv, cw, ku, kv, kw, rfl, hlo, hne, hng, hg, hu, hv, hw, nu, nv, nw, hb⟩
    · rw [siB_yes hs ht, h0] at hR
      cases hR
    · exact ⟨_, rfl, ⟨w'.heap.size, Nat.le_refl _, .inr ⟨g, 3, _, _, _, _, rfl, by rw [fsR_eq ht]; exact vB3 (by unfold sfU; exact facL_len _ _) (by unfold sfV; exact facL_len _ _) (by unfold sfW; exact facL_len _ _) hg hu hv hw nu nv nw hlo rfl⟩⟩, hb⟩
set_option maxHeartbeats 4000000 in
theorem specFs_a (p a b d : Int) (A : Option Addr) (c : Nat) (xs : List Int) (w : World) (hX : RdI w A xs) (hlen : xs.length ≤ 1048576) (hs : tenB p a b d xs = false) :
    Calls Try.prog 10 #[.agg #[.int .i64 p, .int .i64 a, .int .i64 b, .int .i64 d, .slice A xs.length c]] w (ResV w (fsN p a b d xs) (fsR p a b d xs) (fsCode p a b d xs)) := by
  have hB := Below.refl w.heap.size w
  have HN : Hid (fsN p a b d xs = 0) := Lib.hid (by unfold fsN siB; rw [hs]; rfl)
  have HC : Hid (fsCode p a b d xs = 1) := Lib.hid (by unfold fsCode; rw [hs]; rfl)
  have Hs := Lib.hid hs
  clear hs
  go_enter Try.func10, Try.ntmps10
  go_upto_region 0 with (fail)
  refine wp_region_lit ?_
  refine ls_op rfl (fun K' hK' => ?_)
  have lz1 := hB.size
  refine wp_new (some 1) rfl (exec_box 28 _ rfl (#[.int .i64 p, .int .i64 a, .int .i64 b, .int .i64 d, .slice A xs.length c]) rfl) (fun Wz2 nnz3 => ?_)
  have bz4 := nnz3.below (Below.refl _ _) (Nat.le_refl _)
  replace hB := below_after hB bz4
  have hz5 : At Wz2 w.heap.size (.cells #[.int .i64 p, .int .i64 a, .int .i64 b, .int .i64 d, .slice A xs.length c] 28 (0, 0)) := nnz3.at_
  refine hK' _ _ ?_
  clear hK' K' nnz3 bz4
  go_frame
  refine ls_ex (some 2) (.slice none 0 0) rfl rfl (exec_assign _ rfl (.slice none 0 0) rfl) ?_
  go_frame
  refine ls_ex (some 3) (.int .i64 0) rfl rfl (exec_assign _ rfl (.int .i64 0) rfl) ?_
  go_frame
  refine wpList_nil ?_
  go_upto_region 1 with (fail)
  refine wp_region_lit ?_
  refine ls_ex (some 6) (.agg #[.int .i64 p, .int .i64 a, .int .i64 b, .int .i64 d, .slice A xs.length c]) rfl rfl (exec_load_all 28 _ rfl w.heap.size rfl _ _ _ hz5 Try.underlying28 rfl 5 (by kernel_rfl) rfl) ?_
  go_frame
  refine ls_op rfl (fun K' hK' => ?_)
  have lz8 := hB.size
  have lz9 := hz5.lt
  refine wp_call1 (some 7) rfl 17 _ _ rfl (fun args w => by kernel_rfl) _ rfl _ (l05Is_c p a b d A c xs _ (hX.keep hB) (by omega)) (fun e Wz6 h => ?_)
  obtain ⟨rfl, bz7⟩ := h
  replace hB := below_after hB bz7
  replace hz5 := hz5.after bz7
  rw [Hs.out]
  clear bz7
  refine ⟨_, rfl, ?_⟩
  refine hK' _ _ ?_
  clear hK' K'
  go_frame
  refine ls_ex (some 8) (.bool true) rfl rfl (exec_not _ _ rfl false rfl) ?_
  go_frame
  refine wpList_nil ?_
  go_upto_region 2 with (fail)
  refine wp_region_lit ?_
  refine ls_ex (some 2) (.slice none 0 0) rfl rfl (exec_assign _ rfl (.slice none 0 0) rfl) ?_
  go_frame
  refine ls_ex (some 3) (.int .i64 1) rfl rfl (exec_assign _ rfl (.int .i64 1) rfl) ?_
  go_frame
  refine wpList_nil ?_
  go_wp2_with fail
  go_ret2
  exact ⟨_, by rw [HC.out]; rfl, by rw [HN.out]; exact OwnV.nil _ _ _ _, hB⟩
set_option maxHeartbeats 4000000 in
theorem specFs_n (p : Int) (a b d : Nat) (bB oB c N : Nat) (xs : List Int) (w : World) (hX : RdI w (some ⟨bB, oB, none⟩) xs) (hxl : xs.length = N) (hs : tenB p a b d xs = true) (hR : siB p a b d xs = false) :
    Calls Try.prog 10 #[.agg #[.int .i64 p, .int .i64 a, .int .i64 b, .int .i64 d, .slice (some ⟨bB, oB, none⟩) N c]] w (ResV w (fsN p a b d xs) (fsR p a b d xs) (fsCode p a b d xs)) := by
  have hB := Below.refl w.heap.size w
  have HS := Lib.hid hR
  have HN : Hid (fsN p a b d xs = 0) := Lib.hid (by unfold fsN; rw [hR]; rfl)
  have HC : Hid (fsCode p a b d xs = 5) := Lib.hid (by unfold fsCode; rw [hs, hR]; rfl)
  have Hs := Lib.hid hs
  have HXl := Lib.hid hxl
  have hdm := (ten_parts hs).2
  have hNb : N ≤ 729 := by rw [← hxl, hdm.2.2.2.1]; exact Nat.le_trans (Nat.mul_le_mul (Nat.mul_le_mul hdm.1.2 hdm.2.1.2) hdm.2.2.1.2) (by decide)
  clear hR hs hxl hdm
  go_enter Try.func10, Try.ntmps10
  go_upto_region 0 with (fail)
  refine wp_region_lit ?_
  refine ls_op rfl (fun K' hK' => ?_)
  have lz1 := hB.size
  refine wp_new (some 1) rfl (exec_box 28 _ rfl (#[.int .i64 p, .int .i64 a, .int .i64 b, .int .i64 d, .slice (some ⟨bB, oB, none⟩) N c]) rfl) (fun Wz2 nnz3 => ?_)
  have bz4 := nnz3.below (Below.refl _ _) (Nat.le_refl _)
  replace hB := below_after hB bz4
  have hz5 : At Wz2 w.heap.size (.cells #[.int .i64 p, .int .i64 a, .int .i64 b, .int .i64 d, .slice (some ⟨bB, oB, none⟩) N c] 28 (0, 0)) := nnz3.at_
  refine hK' _ _ ?_
  clear hK' K' nnz3 bz4
  go_frame
  refine ls_ex (some 2) (.slice none 0 0) rfl rfl (exec_assign _ rfl (.slice none 0 0) rfl) ?_
  go_frame
  refine ls_ex (some 3) (.int .i64 0) rfl rfl (exec_assign _ rfl (.int .i64 0) rfl) ?_
  go_frame
  refine wpList_nil ?_
  go_upto_region 1 with (fail)
  refine wp_region_lit ?_
  refine ls_ex (some 6) (.agg #[.int .i64 p, .int .i64 a, .int .i64 b, .int .i64 d, .slice (some ⟨bB, oB, none⟩) N c]) rfl rfl (exec_load_all 28 _ rfl w.heap.size rfl _ _ _ hz5 Try.underlying28 rfl 5 (by kernel_rfl) rfl) ?_
  go_frame
  refine ls_op rfl (fun K' hK' => ?_)
  have lz8 := hB.size
  have lz9 := hz5.lt
  refine wp_call1 (some 7) rfl 17 _ _ rfl (fun args w => by kernel_rfl) _ rfl _ (l05IsN_c p a b d (some ⟨bB, oB, none⟩) N c xs _ HXl.out (hX.keep hB) (by omega)) (fun e Wz6 h => ?_)
  obtain ⟨rfl, bz7⟩ := h
  replace hB := below_after hB bz7
  replace hz5 := hz5.after bz7
  rw [Hs.out]
  clear bz7
  refine ⟨_, rfl, ?_⟩
  refine hK' _ _ ?_
  clear hK' K'
  go_frame
  refine ls_ex (some 8) (.bool false) rfl rfl (exec_not _ _ rfl true rfl) ?_
  go_frame
  refine wpList_nil ?_
  go_upto_region 3 with (fail)
  refine wp_region_lit ?_
  refine ls_ex (some 10) (.agg #[.int .i64 p, .int .i64 a, .int .i64 b, .int .i64 d, .slice (some ⟨bB, oB, none⟩) N c]) rfl rfl (exec_load_all 28 _ rfl w.heap.size rfl _ _ _ hz5 Try.underlying28 rfl 5 (by kernel_rfl) rfl) ?_
  go_frame
  refine ls_op rfl (fun K' hK' => ?_)
  have lz12 := hB.size
  have lz13 := hz5.lt
  refine wp_call1 (some 11) rfl 18 _ _ rfl (fun args w => by kernel_rfl) _ rfl _ (specFac_w p a b d bB oB c N xs false _ (hX.keep hB) HXl.out Hs.out HS.out) (fun e Wz10 h => ?_)
  obtain ⟨v9, rfl, bz11⟩ := h
  replace hB := below_after hB bz11
  replace hz5 := hz5.after bz11
  clear bz11
  refine ⟨_, rfl, ?_⟩
  refine hK' _ _ ?_
  clear hK' K'
  go_frame
  refine ls_ex (some 9) (.tuple #[v9, .bool false]) rfl rfl (exec_move _ rfl (.tuple #[v9, .bool false]) rfl) ?_
  go_frame
  refine ls_ex (some 12) (v9) rfl rfl (exec_extract _ 0 rfl #[v9, .bool false] (by rfl) _ rfl) ?_
  go_frame
  refine ls_ex (some 13) (.bool false) rfl rfl (exec_extract _ 1 rfl #[v9, .bool false] (by rfl) _ rfl) ?_
  go_frame
  refine ls_ex (some 4) (v9) rfl rfl (exec_assign _ rfl (v9) rfl) ?_
  go_frame
  refine ls_ex (some 5) (.bool false) rfl rfl (exec_assign _ rfl (.bool false) rfl) ?_
  go_frame
  refine wpList_nil ?_
  go_upto_region 4 with (fail)
  refine wp_region_lit ?_
  refine ls_ex (some 14) (.bool false) rfl rfl (exec_move _ rfl (.bool false) rfl) ?_
  go_frame
  refine ls_ex (some 15) (.bool true) rfl rfl (exec_not _ _ rfl false rfl) ?_
  go_frame
  refine wpList_nil ?_
  go_upto_region 5 with (fail)
  refine wp_region_lit ?_
  refine ls_ex (some 2) (.slice none 0 0) rfl rfl (exec_assign _ rfl (.slice none 0 0) rfl) ?_
  go_frame
  refine ls_ex (some 3) (.int .i64 5) rfl rfl (exec_assign _ rfl (.int .i64 5) rfl) ?_
  go_frame
  refine wpList_nil ?_
  go_wp2_with fail
  go_ret2
  exact ⟨_, by rw [HC.out]; rfl, by rw [HN.out]; exact OwnV.nil _ _ _ _, hB⟩
set_option maxHeartbeats 4000000 in
theorem specFs_y (p : Int) (a b d : Nat) (bB oB c N : Nat) (xs : List Int) (w : World) (hX : RdI w (some ⟨bB, oB, none⟩) xs) (hxl : xs.length = N) (hs : tenB p a b d xs = true) (hR : siB p a b d xs = true) :
    Calls Try.prog 10 #[.agg #[.int .i64 p, .int .i64 a, .int .i64 b, .int .i64 d, .slice (some ⟨bB, oB, none⟩) N c]] w (ResV w (fsN p a b d xs) (fsR p a b d xs) (fsCode p a b d xs)) := by
  have hB := Below.refl w.heap.size w
  have HS := Lib.hid hR
  have HN : Hid (fsN p a b d xs = 3) := Lib.hid (by unfold fsN; rw [hR]; rfl)
  have HC : Hid (fsCode p a b d xs = 0) := Lib.hid (by unfold fsCode; rw [hs, hR]; rfl)
  have Hs := Lib.hid hs
  have HXl := Lib.hid hxl
  have hdm := (ten_parts hs).2
  have hNb : N ≤ 729 := by rw [← hxl, hdm.2.2.2.1]; exact Nat.le_trans (Nat.mul_le_mul (Nat.mul_le_mul hdm.1.2 hdm.2.1.2) hdm.2.2.1.2) (by decide)
  clear hR hs hxl hdm
  go_enter Try.func10, Try.ntmps10
  go_upto_region 0 with (fail)
  refine wp_region_lit ?_
  refine ls_op rfl (fun K' hK' => ?_)
  have lz1 := hB.size
  refine wp_new (some 1) rfl (exec_box 28 _ rfl (#[.int .i64 p, .int .i64 a, .int .i64 b, .int .i64 d, .slice (some ⟨bB, oB, none⟩) N c]) rfl) (fun Wz2 nnz3 => ?_)
  have bz4 := nnz3.below (Below.refl _ _) (Nat.le_refl _)
  replace hB := below_after hB bz4
  have hz5 : At Wz2 w.heap.size (.cells #[.int .i64 p, .int .i64 a, .int .i64 b, .int .i64 d, .slice (some ⟨bB, oB, none⟩) N c] 28 (0, 0)) := nnz3.at_
  refine hK' _ _ ?_
  clear hK' K' nnz3 bz4
  go_frame
  refine ls_ex (some 2) (.slice none 0 0) rfl rfl (exec_assign _ rfl (.slice none 0 0) rfl) ?_
  go_frame
  refine ls_ex (some 3) (.int .i64 0) rfl rfl (exec_assign _ rfl (.int .i64 0) rfl) ?_
  go_frame
  refine wpList_nil ?_
  go_upto_region 1 with (fail)
  refine wp_region_lit ?_
  refine ls_ex (some 6) (.agg #[.int .i64 p, .int .i64 a, .int .i64 b, .int .i64 d, .slice (some ⟨bB, oB, none⟩) N c]) rfl rfl (exec_load_all 28 _ rfl w.heap.size rfl _ _ _ hz5 Try.underlying28 rfl 5 (by kernel_rfl) rfl) ?_
  go_frame
  refine ls_op rfl (fun K' hK' => ?_)
  have lz8 := hB.size
  have lz9 := hz5.lt
  refine wp_call1 (some 7) rfl 17 _ _ rfl (fun args w => by kernel_rfl) _ rfl _ (l05IsN_c p a b d (some ⟨bB, oB, none⟩) N c xs _ HXl.out (hX.keep hB) (by omega)) (fun e Wz6 h => ?_)
  obtain ⟨rfl, bz7⟩ := h
  replace hB := below_after hB bz7
  replace hz5 := hz5.after bz7
  rw [Hs.out]
  clear bz7
  refine ⟨_, rfl, ?_⟩
  refine hK' _ _ ?_
  clear hK' K'
  go_frame
  refine ls_ex (some 8) (.bool false) rfl rfl (exec_not _ _ rfl true rfl) ?_
  go_frame
  refine wpList_nil ?_
  go_upto_region 3 with (fail)
  refine wp_region_lit ?_
  refine ls_ex (some 10) (.agg #[.int .i64 p, .int .i64 a, .int .i64 b, .int .i64 d, .slice (some ⟨bB, oB, none⟩) N c]) rfl rfl (exec_load_all 28 _ rfl w.heap.size rfl _ _ _ hz5 Try.underlying28 rfl 5 (by kernel_rfl) rfl) ?_
  go_frame
  refine ls_op rfl (fun K' hK' => ?_)
  have lz12 := hB.size
  have lz13 := hz5.lt
  have lo9 := hB.size
  refine wp_call1 (some 11) rfl 18 _ _ rfl (fun args w => by kernel_rfl) _ rfl _ (specFacY_w p a b d bB oB c N xs _ (hX.keep hB) HXl.out Hs.out HS.out) (fun e Wz10 h => ?_)
  obtain ⟨v9, rfl, ho, bz11⟩ := h
  replace hB := below_after hB bz11
  replace hz5 := hz5.after bz11
  clear bz11
  refine ⟨_, rfl, ?_⟩
  refine hK' _ _ ?_
  clear hK' K'
  go_frame
  refine ls_ex (some 9) (.tuple #[v9, .bool true]) rfl rfl (exec_move _ rfl (.tuple #[v9, .bool true]) rfl) ?_
  go_frame
  refine ls_ex (some 12) (v9) rfl rfl (exec_extract _ 0 rfl #[v9, .bool true] (by rfl) _ rfl) ?_
  go_frame
  refine ls_ex (some 13) (.bool true) rfl rfl (exec_extract _ 1 rfl #[v9, .bool true] (by rfl) _ rfl) ?_
  go_frame
  refine ls_ex (some 4) (v9) rfl rfl (exec_assign _ rfl (v9) rfl) ?_
  go_frame
  refine ls_ex (some 5) (.bool true) rfl rfl (exec_assign _ rfl (.bool true) rfl) ?_
  go_frame
  refine wpList_nil ?_
  go_upto_region 4 with (fail)
  refine wp_region_lit ?_
  refine ls_ex (some 14) (.bool true) rfl rfl (exec_move _ rfl (.bool true) rfl) ?_
  go_frame
  refine ls_ex (some 15) (.bool false) rfl rfl (exec_not _ _ rfl true rfl) ?_
  go_frame
  refine wpList_nil ?_
  go_upto_region 6 with (fail)
  refine wp_region_lit ?_
  refine ls_ex (some 16) (v9) rfl rfl (exec_move _ rfl (v9) rfl) ?_
  go_frame
  refine ls_ex (some 2) (v9) rfl rfl (exec_assign _ rfl (v9) rfl) ?_
  go_frame
  refine ls_ex (some 3) (.int .i64 0) rfl rfl (exec_assign _ rfl (.int .i64 0) rfl) ?_
  go_frame
  refine wpList_nil ?_
  go_wp2_with fail
  obtain ⟨hi9, hh9, ho9⟩ := ho
  go_ret2
  exact ⟨v9, by rw [HC.out]; rfl, by rw [HN.out]; exact ho9.mono (by omega) hh9, hB⟩
theorem specFactorsOfSimple_c (p a b d : Int) (A : Option Addr) (c : Nat) (xs : List Int) (w : World) (hX : RdI w A xs) (hlen : xs.length ≤ 1048576) : Calls Try.prog 10 #[.agg #[.int .i64 p, .int .i64 a, .int .i64 b, .int .i64 d, .slice A xs.length c]] w (ResV w (fsN p a b d xs) (fsR p a b d xs) (fsCode p a b d xs)) := by
  rcases Bool.eq_false_or_eq_true (tenB p a b d xs) with hs | hs
  · obtain ⟨a, b, d, rfl, rfl, rfl⟩ := ten_natsS hs
    have h0 := (ten_parts hs).2
    have hpos : 0 < xs.length := by rw [h0.2.2.2.1]; exact Nat.mul_pos (Nat.mul_pos (by omega) (by omega)) (by omega)
    obtain ⟨bB, oB, rfl, _⟩ := hX.at_ (i := 0) hpos
    rcases Bool.eq_false_or_eq_true (siB p a b d xs) with hR | hR
    · exact specFs_y p a b d bB oB c xs.length xs w hX rfl hs hR
    · exact specFs_n p a b d bB oB c xs.length xs w hX rfl hs hR
  · exact specFs_a p a b d A c xs w hX hlen hs
theorem implFacY_w (p : Int) (a b d : Nat) (bB oB c N : Nat) (xs : List Int) (w : World) (hX : RdI w (some ⟨bB, oB, none⟩) xs) (hxl : xs.length = N) (hs : tenB p a b d xs = true) (hR : siB p a b d xs = true) :
    Calls Try.prog 21 #[.agg #[.int .i64 p, .int .i64 a, .int .i64 b, .int .i64 d, .slice (some ⟨bB, oB, none⟩) N c]] w fun e w' => ∃ v, e = .returned (.tuple #[v, .bool true]) ∧ OwnQ w' w.heap.size v 3 (fsR p a b d xs) ∧ Below w.heap.size w w' := by
  rcases nz_cases xs with hn | ⟨t0, ht⟩
  · rw [siB_no hn] at hR
    cases hR
  · refine (sfYes_c p a b d bB oB c N xs w hX hxl hs t0 ht).mono ?_
    intro e w' h
    obtain ⟨g, gu, gv, gw, rfl, hlo, hne, hng, hg, hu, hv, hw, hb⟩ := h
    exact ⟨_, by rw [← siB_yes hs ht, hR], ⟨w'.heap.size, Nat.le_refl _, .inr ⟨g, 3, _, _, rfl, by rw [fsR_eq ht]; exact matB3 (by unfold sfU; exact facL_len _ _) (by unfold sfV; exact facL_len _ _) (by unfold sfW; exact facL_len _ _) hg hu hv hw hlo rfl hne⟩⟩, hb⟩
set_option maxHeartbeats 4000000 in
theorem implFs_a (p a b d : Int) (A : Option Addr) (c : Nat) (xs : List Int) (w : World) (hX : RdI w A xs) (hlen : xs.length ≤ 1048576) (hs : tenB p a b d xs = false) :
    Calls Try.prog 11 #[.agg #[.int .i64 p, .int .i64 a, .int .i64 b, .int .i64 d, .slice A xs.length c]] w (ResM w (fsN p a b d xs) (fsR p a b d xs) (fsCode p a b d xs)) := by
  have hB := Below.refl w.heap.size w
  have HN : Hid (fsN p a b d xs = 0) := Lib.hid (by unfold fsN siB; rw [hs]; rfl)
  have HC : Hid (fsCode p a b d xs = 1) := Lib.hid (by unfold fsCode; rw [hs]; rfl)
  have Hs := Lib.hid hs
  clear hs
  go_enter Try.func11, Try.ntmps11
  go_upto_region 0 with (fail)
  refine wp_region_lit ?_
  refine ls_op rfl (fun K' hK' => ?_)
  have lz1 := hB.size
  refine wp_new (some 1) rfl (exec_box 28 _ rfl (#[.int .i64 p, .int .i64 a, .int .i64 b, .int .i64 d, .slice A xs.length c]) rfl) (fun Wz2 nnz3 => ?_)
  have bz4 := nnz3.below (Below.refl _ _) (Nat.le_refl _)
  replace hB := below_after hB bz4
  have hz5 : At Wz2 w.heap.size (.cells #[.int .i64 p, .int .i64 a, .int .i64 b, .int .i64 d, .slice A xs.length c] 28 (0, 0)) := nnz3.at_
  refine hK' _ _ ?_
  clear hK' K' nnz3 bz4
  go_frame
  refine ls_ex (some 2) (.slice none 0 0) rfl rfl (exec_assign _ rfl (.slice none 0 0) rfl) ?_
  go_frame
  refine ls_ex (some 3) (.int .i64 0) rfl rfl (exec_assign _ rfl (.int .i64 0) rfl) ?_
  go_frame
  refine wpList_nil ?_
  go_upto_region 1 with (fail)
  refine wp_region_lit ?_
  refine ls_ex (some 6) (.agg #[.int .i64 p, .int .i64 a, .int .i64 b, .int .i64 d, .slice A xs.length c]) rfl rfl (exec_load_all 28 _ rfl w.heap.size rfl _ _ _ hz5 Try.underlying28 rfl 5 (by kernel_rfl) rfl) ?_
  go_frame
  refine ls_op rfl (fun K' hK' => ?_)
  have lz8 := hB.size
  have lz9 := hz5.lt
  refine wp_call1 (some 7) rfl 20 _ _ rfl (fun args w => by kernel_rfl) _ rfl _ (implIsTensor_c p a b d A c xs _ (hX.keep hB) (by omega)) (fun e Wz6 h => ?_)
  obtain ⟨rfl, bz7⟩ := h
  replace hB := below_after hB bz7
  replace hz5 := hz5.after bz7
  rw [Hs.out]
  clear bz7
  refine ⟨_, rfl, ?_⟩
  refine hK' _ _ ?_
  clear hK' K'
  go_frame
  refine ls_ex (some 8) (.bool true) rfl rfl (exec_not _ _ rfl false rfl) ?_
  go_frame
  refine wpList_nil ?_
  go_upto_region 2 with (fail)
  refine wp_region_lit ?_
  refine ls_ex (some 2) (.slice none 0 0) rfl rfl (exec_assign _ rfl (.slice none 0 0) rfl) ?_
  go_frame
  refine ls_ex (some 3) (.int .i64 1) rfl rfl (exec_assign _ rfl (.int .i64 1) rfl) ?_
  go_frame
  refine wpList_nil ?_
  go_wp2_with fail
  go_ret2
  exact ⟨_, by rw [HC.out]; rfl, by rw [HN.out]; exact OwnM.nil _ _ _ _, hB⟩
set_option maxHeartbeats 4000000 in
theorem implFs_n (p : Int) (a b d : Nat) (bB oB c N : Nat) (xs : List Int) (w : World) (hX : RdI w (some ⟨bB, oB, none⟩) xs) (hxl : xs.length = N) (hs : tenB p a b d xs = true) (hR : siB p a b d xs = false) :
    Calls Try.prog 11 #[.agg #[.int .i64 p, .int .i64 a, .int .i64 b, .int .i64 d, .slice (some ⟨bB, oB, none⟩) N c]] w (ResM w (fsN p a b d xs) (fsR p a b d xs) (fsCode p a b d xs)) := by
  have hB := Below.refl w.heap.size w
  have HS := Lib.hid hR
  have HN : Hid (fsN p a b d xs = 0) := Lib.hid (by unfold fsN; rw [hR]; rfl)
  have HC : Hid (fsCode p a b d xs = 5) := Lib.hid (by unfold fsCode; rw [hs, hR]; rfl)
  have Hs := Lib.hid hs
  have HXl := Lib.hid hxl
  have hdm := (ten_parts hs).2
  have hNb : N ≤ 729 := by rw [← hxl, hdm.2.2.2.1]; exact Nat.le_trans (Nat.mul_le_mul (Nat.mul_le_mul hdm.1.2 hdm.2.1.2) hdm.2.2.1.2) (by decide)
  clear hR hs hxl hdm
  go_enter Try.func11, Try.ntmps11
  go_upto_region 0 with (fail)
  refine wp_region_lit ?_
  refine ls_op rfl (fun K' hK' => ?_)
  have lz1 := hB.size
  refine wp_new (some 1) rfl (exec_box 28 _ rfl (#[.int .i64 p, .int .i64 a, .int .i64 b, .int .i64 d, .slice (some ⟨bB, oB, none⟩) N c]) rfl) (fun Wz2 nnz3 => ?_)
  have bz4 := nnz3.below (Below.refl _ _) (Nat.le_refl _)
  replace hB := below_after hB bz4
  have hz5 : At Wz2 w.heap.size (.cells #[.int .i64 p, .int .i64 a, .int .i64 b, .int .i64 d, .slice (some ⟨bB, oB, none⟩) N c] 28 (0, 0)) := nnz3.at_
  refine hK' _ _ ?_
  clear hK' K' nnz3 bz4
  go_frame
  refine ls_ex (some 2) (.slice none 0 0) rfl rfl (exec_assign _ rfl (.slice none 0 0) rfl) ?_
  go_frame
  refine ls_ex (some 3) (.int .i64 0) rfl rfl (exec_assign _ rfl (.int .i64 0) rfl) ?_
  go_frame
  refine wpList_nil ?_
  go_upto_region 1 with (fail)
  refine wp_region_lit ?_
  refine ls_ex (some 6) (.agg #[.int .i64 p, .int .i64 a, .int .i64 b, .int .i64 d, .slice (some ⟨bB, oB, none⟩) N c]) rfl rfl (exec_load_all 28 _ rfl w.heap.size rfl _ _ _ hz5 Try.underlying28 rfl 5 (by kernel_rfl) rfl) ?_
  go_frame
  refine ls_op rfl (fun K' hK' => ?_)
  have lz8 := hB.size
  have lz9 := hz5.lt
  refine wp_call1 (some 7) rfl 20 _ _ rfl (fun args w => by kernel_rfl) _ rfl _ (implIsTensorN_c p a b d (some ⟨bB, oB, none⟩) N c xs _ HXl.out (hX.keep hB) (by omega)) (fun e Wz6 h => ?_)
  obtain ⟨rfl, bz7⟩ := h
  replace hB := below_after hB bz7
  replace hz5 := hz5.after bz7
  rw [Hs.out]
  clear bz7
  refine ⟨_, rfl, ?_⟩
  refine hK' _ _ ?_
  clear hK' K'
  go_frame
  refine ls_ex (some 8) (.bool false) rfl rfl (exec_not _ _ rfl true rfl) ?_
  go_frame
  refine wpList_nil ?_
  go_upto_region 3 with (fail)
  refine wp_region_lit ?_
  refine ls_ex (some 10) (.agg #[.int .i64 p, .int .i64 a, .int .i64 b, .int .i64 d, .slice (some ⟨bB, oB, none⟩) N c]) rfl rfl (exec_load_all 28 _ rfl w.heap.size rfl _ _ _ hz5 Try.underlying28 rfl 5 (by kernel_rfl) rfl) ?_
  go_frame
  refine ls_op rfl (fun K' hK' => ?_)
  have lz12 := hB.size
  have lz13 := hz5.lt
  refine wp_call1 (some 11) rfl 21 _ _ rfl (fun args w => by kernel_rfl) _ rfl _ (implFac_w p a b d bB oB c N xs false _ (hX.keep hB) HXl.out Hs.out HS.out) (fun e Wz10 h => ?_)
  obtain ⟨v9, rfl, bz11⟩ := h
  replace hB := below_after hB bz11
  replace hz5 := hz5.after bz11
  clear bz11
  refine ⟨_, rfl, ?_⟩
  refine hK' _ _ ?_
  clear hK' K'
  go_frame
  refine ls_ex (some 9) (.tuple #[v9, .bool false]) rfl rfl (exec_move _ rfl (.tuple #[v9, .bool false]) rfl) ?_
  go_frame
  refine ls_ex (some 12) (v9) rfl rfl (exec_extract _ 0 rfl #[v9, .bool false] (by rfl) _ rfl) ?_
  go_frame
  refine ls_ex (some 13) (.bool false) rfl rfl (exec_extract _ 1 rfl #[v9, .bool false] (by rfl) _ rfl) ?_
  go_frame
  refine ls_ex (some 4) (v9) rfl rfl (exec_assign _ rfl (v9) rfl) ?_
  go_frame
  refine ls_ex (some 5) (.bool false) rfl rfl (exec_assign _ rfl (.bool false) rfl) ?_
  go_frame
  refine wpList_nil ?_
  go_upto_region 4 with (fail)
  refine wp_region_lit ?_
  refine ls_ex (some 14) (.bool false) rfl rfl (exec_move _ rfl (.bool false) rfl) ?_
  go_frame
  refine ls_ex (some 15) (.bool true) rfl rfl (exec_not _ _ rfl false rfl) ?_
  go_frame
  refine wpList_nil ?_
  go_upto_region 5 with (fail)
  refine wp_region_lit ?_
  refine ls_ex (some 2) (.slice none 0 0) rfl rfl (exec_assign _ rfl (.slice none 0 0) rfl) ?_
  go_frame
  refine ls_ex (some 3) (.int .i64 5) rfl rfl (exec_assign _ rfl (.int .i64 5) rfl) ?_
  go_frame
  refine wpList_nil ?_
  go_wp2_with fail
  go_ret2
  exact ⟨_, by rw [HC.out]; rfl, by rw [HN.out]; exact OwnM.nil _ _ _ _, hB⟩
set_option maxHeartbeats 4000000 in
theorem implFs_y (p : Int) (a b d : Nat) (bB oB c N : Nat) (xs : List Int) (w : World) (hX : RdI w (some ⟨bB, oB, none⟩) xs) (hxl : xs.length = N) (hs : tenB p a b d xs = true) (hR : siB p a b d xs = true) :
    Calls Try.prog 11 #[.agg #[.int .i64 p, .int .i64 a, .int .i64 b, .int .i64 d, .slice (some ⟨bB, oB, none⟩) N c]] w (ResM w (fsN p a b d xs) (fsR p a b d xs) (fsCode p a b d xs)) := by
  have hB := Below.refl w.heap.size w
  have HS := Lib.hid hR
  have HN : Hid (fsN p a b d xs = 3) := Lib.hid (by unfold fsN; rw [hR]; rfl)
  have HC : Hid (fsCode p a b d xs = 0) := Lib.hid (by unfold fsCode; rw [hs, hR]; rfl)
  have Hs := Lib.hid hs
  have HXl := Lib.hid hxl
  have hdm := (ten_parts hs).2
  have hNb : N ≤ 729 := by rw [← hxl, hdm.2.2.2.1]; exact Nat.le_trans (Nat.mul_le_mul (Nat.mul_le_mul hdm.1.2 hdm.2.1.2) hdm.2.2.1.2) (by decide)
  clear hR hs hxl hdm
  go_enter Try.func11, Try.ntmps11
  go_upto_region 0 with (fail)
  refine wp_region_lit ?_
  refine ls_op rfl (fun K' hK' => ?_)
  have lz1 := hB.size
  refine wp_new (some 1) rfl (exec_box 28 _ rfl (#[.int .i64 p, .int .i64 a, .int .i64 b, .int .i64 d, .slice (some ⟨bB, oB, none⟩) N c]) rfl) (fun Wz2 nnz3 => ?_)
  have bz4 := nnz3.below (Below.refl _ _) (Nat.le_refl _)
  replace hB := below_after hB bz4
  have hz5 : At Wz2 w.heap.size (.cells #[.int .i64 p, .int .i64 a, .int .i64 b, .int .i64 d, .slice (some ⟨bB, oB, none⟩) N c] 28 (0, 0)) := nnz3.at_
  refine hK' _ _ ?_
  clear hK' K' nnz3 bz4
  go_frame
  refine ls_ex (some 2) (.slice none 0 0) rfl rfl (exec_assign _ rfl (.slice none 0 0) rfl) ?_
  go_frame
  refine ls_ex (some 3) (.int .i64 0) rfl rfl (exec_assign _ rfl (.int .i64 0) rfl) ?_
  go_frame
  refine wpList_nil ?_
  go_upto_region 1 with (fail)
  refine wp_region_lit ?_
  refine ls_ex (some 6) (.agg #[.int .i64 p, .int .i64 a, .int .i64 b, .int .i64 d, .slice (some ⟨bB, oB, none⟩) N c]) rfl rfl (exec_load_all 28 _ rfl w.heap.size rfl _ _ _ hz5 Try.underlying28 rfl 5 (by kernel_rfl) rfl) ?_
  go_frame
  refine ls_op rfl (fun K' hK' => ?_)
  have lz8 := hB.size
  have lz9 := hz5.lt
  refine wp_call1 (some 7) rfl 20 _ _ rfl (fun args w => by kernel_rfl) _ rfl _ (implIsTensorN_c p a b d (some ⟨bB, oB, none⟩) N c xs _ HXl.out (hX.keep hB) (by omega)) (fun e Wz6 h => ?_)
  obtain ⟨rfl, bz7⟩ := h
  replace hB := below_after hB bz7
  replace hz5 := hz5.after bz7
  rw [Hs.out]
  clear bz7
  refine ⟨_, rfl, ?_⟩
  refine hK' _ _ ?_
  clear hK' K'
  go_frame
  refine ls_ex (some 8) (.bool false) rfl rfl (exec_not _ _ rfl true rfl) ?_
  go_frame
  refine wpList_nil ?_
  go_upto_region 3 with (fail)
  refine wp_region_lit ?_
  refine ls_ex (some 10) (.agg #[.int .i64 p, .int .i64 a, .int .i64 b, .int .i64 d, .slice (some ⟨bB, oB, none⟩) N c]) rfl rfl (exec_load_all 28 _ rfl w.heap.size rfl _ _ _ hz5 Try.underlying28 rfl 5 (by kernel_rfl) rfl) ?_
  go_frame
  refine ls_op rfl (fun K' hK' => ?_)
  have lz12 := hB.size
  have lz13 := hz5.lt
  have lo9 := hB.size
  refine wp_call1 (some 11) rfl 21 _ _ rfl (fun args w => by kernel_rfl) _ rfl _ (implFacY_w p a b d bB oB c N xs _ (hX.keep hB) HXl.out Hs.out HS.out) (fun e Wz10 h => ?_)
  obtain ⟨v9, rfl, ho, bz11⟩ := h
  replace hB := below_after hB bz11
  replace hz5 := hz5.after bz11
  clear bz11
  refine ⟨_, rfl, ?_⟩
  refine hK' _ _ ?_
  clear hK' K'
  go_frame
  refine ls_ex (some 9) (.tuple #[v9, .bool true]) rfl rfl (exec_move _ rfl (.tuple #[v9, .bool true]) rfl) ?_
  go_frame
  refine ls_ex (some 12) (v9) rfl rfl (exec_extract _ 0 rfl #[v9, .bool true] (by rfl) _ rfl) ?_
  go_frame
  refine ls_ex (some 13) (.bool true) rfl rfl (exec_extract _ 1 rfl #[v9, .bool true] (by rfl) _ rfl) ?_
  go_frame
  refine ls_ex (some 4) (v9) rfl rfl (exec_assign _ rfl (v9) rfl) ?_
  go_frame
  refine ls_ex (some 5) (.bool true) rfl rfl (exec_assign _ rfl (.bool true) rfl) ?_
  go_frame
  refine wpList_nil ?_
  go_upto_region 4 with (fail)
  refine wp_region_lit ?_
  refine ls_ex (some 14) (.bool true) rfl rfl (exec_move _ rfl (.bool true) rfl) ?_
  go_frame
  refine ls_ex (some 15) (.bool false) rfl rfl (exec_not _ _ rfl true rfl) ?_
  go_frame
  refine wpList_nil ?_
  go_upto_region 6 with (fail)
  refine wp_region_lit ?_
  refine ls_ex (some 16) (v9) rfl rfl (exec_move _ rfl (v9) rfl) ?_
  go_frame
  refine ls_ex (some 2) (v9) rfl rfl (exec_assign _ rfl (v9) rfl) ?_
  go_frame
  refine ls_ex (some 3) (.int .i64 0) rfl rfl (exec_assign _ rfl (.int .i64 0) rfl) ?_
  go_frame
  refine wpList_nil ?_
  go_wp2_with fail
  obtain ⟨hi9, hh9, ho9⟩ := ho
  go_ret2
  exact ⟨v9, by rw [HC.out]; rfl, by rw [HN.out]; exact ho9.mono (by omega) hh9, hB⟩
theorem implFactorsOfSimple_c (p a b d : Int) (A : Option Addr) (c : Nat) (xs : List Int) (w : World) (hX : RdI w A xs) (hlen : xs.length ≤ 1048576) : Calls Try.prog 11 #[.agg #[.int .i64 p, .int .i64 a, .int .i64 b, .int .i64 d, .slice A xs.length c]] w (ResM w (fsN p a b d xs) (fsR p a b d xs) (fsCode p a b d xs)) := by
  rcases Bool.eq_false_or_eq_true (tenB p a b d xs) with hs | hs
  · obtain ⟨a, b, d, rfl, rfl, rfl⟩ := ten_natsS hs
    have h0 := (ten_parts hs).2
    have hpos : 0 < xs.length := by rw [h0.2.2.2.1]; exact Nat.mul_pos (Nat.mul_pos (by omega) (by omega)) (by omega)
    obtain ⟨bB, oB, rfl, _⟩ := hX.at_ (i := 0) hpos
    rcases Bool.eq_false_or_eq_true (siB p a b d xs) with hR | hR
    · exact implFs_y p a b d bB oB c xs.length xs w hX rfl hs hR
    · exact implFs_n p a b d bB oB c xs.length xs w hX rfl hs hR
  · exact implFs_a p a b d A c xs w hX hlen hs
end Go.Proofs.Ytcfgpjkdonidgaa
