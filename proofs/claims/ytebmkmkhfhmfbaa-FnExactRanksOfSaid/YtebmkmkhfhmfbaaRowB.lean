/-
  Lists of lists: parts with more room than numbers (OwnV), rows that are parts of one list (OwnR). (Made by mkrowb.py of sfv.in and rowb.in.)
-/
import Derived.Test.YtebmkmkhfhmfbaaTen1
namespace Go.Proofs.Ytebmkmkhfhmfbaa
open Go.RowKit
set_option maxRecDepth 100000
structure VB (w : World) (lo hi g : Nat) (cs : Array Value) (gs caps : Nat → Nat) (os : Nat → Array Value) (n : Nat) (row : Nat → List Int) : Prop where
  out : At w g (.cells cs 49 (0, 0))
  og : lo ≤ g ∧ g < hi
  cell : ∀ i, i < n → cs[i]? = some (.slice (some ⟨gs i, 0, none⟩) (row i).length (caps i))
  rowA : ∀ i, i < n → At w (gs i) (.cells (os i) 2 (0, 0)) ∧ lo ≤ gs i ∧ gs i < hi
  nums : ∀ i, i < n → ∀ (t : Nat) (X : Int), (row i)[t]? = some X → (os i)[t]? = some (.int .i64 X)
def OwnV (w : World) (lo hi : Nat) (v : Value) (n : Nat) (row : Nat → List Int) : Prop :=
  (v = .slice none 0 0 ∧ n = 0) ∨ ∃ g c cs gs caps os, v = .slice (some ⟨g, 0, none⟩) n c ∧ VB w lo hi g cs gs caps os n row
theorem OwnV.nil (w : World) (lo hi : Nat) (row : Nat → List Int) : OwnV w lo hi (.slice none 0 0) 0 row := .inl ⟨rfl, rfl⟩
section
variable {w w' : World} {lo hi lo' hi' g n : Nat} {cs : Array Value} {gs caps : Nat → Nat} {os : Nat → Array Value} {row : Nat → List Int} {v : Value}
theorem VB.keepR (h : VB w lo hi g cs gs caps os n row) (keep : ∀ x o, lo ≤ x → x < hi → At w x o → At w' x o) : VB w' lo hi g cs gs caps os n row :=
  ⟨keep _ _ h.og.1 h.og.2 h.out, h.og, h.cell, fun i hi => ⟨keep _ _ (h.rowA i hi).2.1 (h.rowA i hi).2.2 (h.rowA i hi).1, (h.rowA i hi).2⟩, h.nums⟩
theorem OwnV.below (h : OwnV w lo hi v n row) (hb : Below w.heap.size w w') : OwnV w' lo hi v n row := by
  rcases h with h0 | ⟨g, c, cs, gs, caps, os, hv, hm⟩
  · exact .inl h0
  · exact .inr ⟨g, c, cs, gs, caps, os, hv, hm.keepR fun _ _ _ _ hx => hx.after hb⟩
theorem OwnV.same (h : OwnV w lo hi v n row) (hs : Same lo' hi' w w') (hd : hi ≤ lo' ∨ hi' ≤ lo) : OwnV w' lo hi v n row := by
  rcases h with h0 | ⟨g, c, cs, gs, caps, os, hv, hm⟩
  · exact .inl h0
  · exact .inr ⟨g, c, cs, gs, caps, os, hv, hm.keepR fun x _ h1 h2 hx => (hs.block x hx.lt (by omega)).trans hx⟩
theorem OwnV.drewN (h : OwnV w lo hi v n row) (j : Nat) : OwnV (w.drewN j) lo hi v n row := h.below (below_drawn (Below.refl _ _) j)
theorem RdI.of_os {o : Array Value} {xs : List Int} (h : At w g (.cells o 2 (0, 0))) (hn : ∀ (t : Nat) (X : Int), xs[t]? = some X → o[t]? = some (.int .i64 X)) : RdI w (some ⟨g, 0, none⟩) xs := by
  refine .inr ⟨g, 0, rfl, fun i x hi => ?_⟩
  rw [h.at_, Nat.zero_add]
  exact hn i x hi
theorem OwnV.rd (h : OwnV w lo hi v n row) : ∃ A c, v = .slice A n c ∧ RdM w A n row := by
  rcases h with ⟨rfl, rfl⟩ | ⟨g, c, cs, gs, caps, os, rfl, hm⟩
  · exact ⟨none, 0, rfl, .inl rfl⟩
  · exact ⟨_, _, rfl, .inr ⟨g, 0, rfl, fun i hi => ⟨_, _, by rw [hm.out.at_, Nat.zero_add, hm.cell i hi], RdI.of_os (hm.rowA i hi).1 (hm.nums i hi)⟩⟩⟩
theorem OwnV.rd' {A : Option Addr} {c m : Nat} (h : OwnV w lo hi (.slice A m c) n row) : RdM w A n row := by
  obtain ⟨A', c', e, hr⟩ := h.rd
  simp only [Value.slice.injEq] at e
  rw [e.1]
  exact hr
theorem OwnV.mono (h : OwnV w lo hi v n row) (hl : lo' ≤ lo) (hh : hi ≤ hi') : OwnV w lo' hi' v n row := by
  rcases h with h0 | ⟨g, c, cs, gs, caps, os, hv, hm⟩
  · exact .inl h0
  · exact .inr ⟨g, c, cs, gs, caps, os, hv, hm.out, ⟨Nat.le_trans hl hm.og.1, Nat.lt_of_lt_of_le hm.og.2 hh⟩, hm.cell, fun i hi => ⟨(hm.rowA i hi).1, Nat.le_trans hl (hm.rowA i hi).2.1, Nat.lt_of_lt_of_le (hm.rowA i hi).2.2 hh⟩, hm.nums⟩
/-- The call answers these lists, in memory of its own that may have more room, and this code. -/
def ResV (w : World) (n : Nat) (row : Nat → List Int) (code : Int) (e : Ending) (w' : World) : Prop :=
  ∃ v, e = .returned (.tuple #[v, .int .i64 code]) ∧ OwnV w' w.heap.size w'.heap.size v n row ∧ Below w.heap.size w w'
def OwnQ (w : World) (lo : Nat) (v : Value) (n : Nat) (row : Nat → List Int) : Prop := ∃ hi, hi ≤ w.heap.size ∧ OwnM w lo hi v n row
def OwnU (w : World) (lo : Nat) (v : Value) (n : Nat) (row : Nat → List Int) : Prop := ∃ hi, hi ≤ w.heap.size ∧ OwnV w lo hi v n row
theorem OwnQ.below (h : OwnQ w lo v n row) (hb : Below w.heap.size w w') : OwnQ w' lo v n row := by
  obtain ⟨hi, h1, h2⟩ := h
  exact ⟨hi, Nat.le_trans h1 hb.size, h2.below hb⟩
theorem OwnU.below (h : OwnU w lo v n row) (hb : Below w.heap.size w w') : OwnU w' lo v n row := by
  obtain ⟨hi, h1, h2⟩ := h
  exact ⟨hi, Nat.le_trans h1 hb.size, h2.below hb⟩
theorem OwnQ.drew (h : OwnQ w lo v n row) : OwnQ w.drew lo v n row := h.below (Below.refl _ _).drew
theorem OwnU.drew (h : OwnU w lo v n row) : OwnU w.drew lo v n row := h.below (Below.refl _ _).drew
end
def tri {α : Type} (x y z : α) : Nat → α
  | 0 => x
  | 1 => y
  | _ => z
theorem three {P : Nat → Prop} (h0 : P 0) (h1 : P 1) (h2 : P 2) (i : Nat) (hi : i < 3) : P i := by
  rcases i with _ | _ | _ | i
  · exact h0
  · exact h1
  · exact h2
  · omega
theorem matB3 {w : World} {lo hi g gu gv gw a b d : Nat} {u v z : List Int} (ha : u.length = a) (hb : v.length = b) (hd : z.length = d)
    (h : At w g (.cells #[.slice (some ⟨gu, 0, none⟩) a a, .slice (some ⟨gv, 0, none⟩) b b, .slice (some ⟨gw, 0, none⟩) d d] 49 (0, 0)))
    (hu : At w gu (.cells (iar u) 2 (0, 0))) (hv : At w gv (.cells (iar v) 2 (0, 0))) (hz : At w gw (.cells (iar z) 2 (0, 0)))
    (hl : lo ≤ g ∧ lo ≤ gu ∧ lo ≤ gv ∧ lo ≤ gw) (hh : hi = w.heap.size) (hn : gu ≠ gv ∧ gu ≠ gw ∧ gv ≠ gw) :
    MatB w lo hi g #[.slice (some ⟨gu, 0, none⟩) a a, .slice (some ⟨gv, 0, none⟩) b b, .slice (some ⟨gw, 0, none⟩) d d] (tri gu gv gw) 3 (tri u v z) := by
  subst hh
  subst ha
  subst hb
  subst hd
  refine ⟨h, ⟨hl.1, h.lt⟩, ?_, ?_, ?_⟩
  · exact three (P := fun i => _) rfl rfl rfl
  · exact three (P := fun i => At w (tri gu gv gw i) (.cells (iar (tri u v z i)) 2 (0, 0)) ∧ lo ≤ tri gu gv gw i ∧ tri gu gv gw i < w.heap.size) ⟨hu, hl.2.1, hu.lt⟩ ⟨hv, hl.2.2.1, hv.lt⟩ ⟨hz, hl.2.2.2, hz.lt⟩
  · intro i j hij hj
    have h3 : (i = 0 ∧ j = 1) ∨ (i = 0 ∧ j = 2) ∨ (i = 1 ∧ j = 2) := by omega
    rcases h3 with ⟨rfl, rfl⟩ | ⟨rfl, rfl⟩ | ⟨rfl, rfl⟩
    · exact hn.1
    · exact hn.2.1
    · exact hn.2.2
theorem vB3 {w : World} {lo hi g gu gv gw a b d cu cv cw : Nat} {ku kv kw : Array Value} {u v z : List Int} (ha : u.length = a) (hb : v.length = b) (hd : z.length = d)
    (h : At w g (.cells #[.slice (some ⟨gu, 0, none⟩) a cu, .slice (some ⟨gv, 0, none⟩) b cv, .slice (some ⟨gw, 0, none⟩) d cw] 49 (0, 0)))
    (hu : At w gu (.cells ku 2 (0, 0))) (hv : At w gv (.cells kv 2 (0, 0))) (hz : At w gw (.cells kw 2 (0, 0)))
    (nu : ∀ (t : Nat) (X : Int), u[t]? = some X → ku[t]? = some (.int .i64 X)) (nv : ∀ (t : Nat) (X : Int), v[t]? = some X → kv[t]? = some (.int .i64 X)) (nz : ∀ (t : Nat) (X : Int), z[t]? = some X → kw[t]? = some (.int .i64 X))
    (hl : lo ≤ g ∧ lo ≤ gu ∧ lo ≤ gv ∧ lo ≤ gw) (hh : hi = w.heap.size) :
    VB w lo hi g #[.slice (some ⟨gu, 0, none⟩) a cu, .slice (some ⟨gv, 0, none⟩) b cv, .slice (some ⟨gw, 0, none⟩) d cw] (tri gu gv gw) (tri cu cv cw) (tri ku kv kw) 3 (tri u v z) := by
  subst hh
  subst ha
  subst hb
  subst hd
  refine ⟨h, ⟨hl.1, h.lt⟩, ?_, ?_, ?_⟩
  · exact three (P := fun i => _) rfl rfl rfl
  · exact three (P := fun i => At w (tri gu gv gw i) (.cells (tri ku kv kw i) 2 (0, 0)) ∧ lo ≤ tri gu gv gw i ∧ tri gu gv gw i < w.heap.size) ⟨hu, hl.2.1, hu.lt⟩ ⟨hv, hl.2.2.1, hv.lt⟩ ⟨hz, hl.2.2.2, hz.lt⟩
  · exact three (P := fun i => ∀ (t : Nat) (X : Int), (tri u v z i)[t]? = some X → (tri ku kv kw i)[t]? = some (.int .i64 X)) nu nv nz
theorem tot3 (u v z : List Int) : tot (tri u v z) 3 = u.length + v.length + z.length := by
  simp [tot, tri]
/-! ### Rows that are parts of one list -/
set_option maxHeartbeats 800000 in
theorem markInt64S_part (g off c len k K : Nat) (cs : Array Value) (t : TypeId) (w : World) (h : At w g (.cells (markCI cs K off) t (0, 0))) (hl : off + len ≤ cs.size) (hk' : k = K + off) (hn : len ≤ 1048576) (hk : k ≤ 2000000000) :
    Calls Try.prog 30 #[.slice (some ⟨g, off, none⟩) len c, .int .i64 k] w fun e w' => e = .returned (.int .i64 ((k + len : Nat) : Int)) ∧ At w' g (.cells (markCI cs K (off + len)) t (0, 0)) ∧ w.grownBy w' (some g) := by
  go_enter Try.func30, Try.ntmps30
  go_wp2_with fail
  go_loopw [1, 5] (fun kv i wr => ∃ a : Nat, a ≤ len ∧ i = .int .i64 a ∧ kv = .int .i64 ((k + a : Nat) : Int) ∧ At wr g (.cells (markCI cs K (off + a)) t (0, 0)) ∧ w.grownBy wr (some g)) (fun _ i _ => len - (intOf i).toNat)
  case atStart => exact ⟨0, by omega, rfl, by simp, h, grown_refl _ _⟩
  case round =>
    obtain ⟨a, ha, rfl, rfl, hA, hG⟩ := hrel
    by_cases hlt : a < len
    · have e0 : IntKind.i64.wrap ((a : Int) + 1) = (a : Int) + 1 := IntWalk.i64_in _ (by omega)
      have hN : off + a < cs.size := by omega
      have x0 : wr.cell? ⟨g, off + a, none⟩ = some ((markCI cs K (off + a))[off + a]?.getD undef) := markCI_old hA hN
      have z0 := hA.free (off + a)
      go_wp2_with fail
      exact ⟨⟨a + 1, by omega, by go_num, by go_num, markCI_at hA hN (by simp only [markVI, hk']; congr 1; omega), grown_setCell hG _ _⟩, by simp [intOf]; omega⟩
    · obtain rfl : a = len := by omega
      go_wp2_with fail
      go_ret
      exact ⟨rfl, hA, hG⟩
set_option maxHeartbeats 800000 in
theorem heldInt64S_part (g off c len k : Nat) (w : World) (hc : ∀ i, i < len → w.cell? ⟨g, off + i, none⟩ = some (markVI k i)) (hn : len ≤ 1048576) (hk : k ≤ 2000000000) :
    Calls Try.prog 31 #[.slice (some ⟨g, off, none⟩) len c, .int .i64 k] w fun e w' => e = .returned (.int .i64 ((k + len : Nat) : Int)) ∧ w = w' := by
  have Hc := Lib.hid hc
  clear hc
  go_enter Try.func31, Try.ntmps31
  go_wp2_with fail
  go_loop [1, 5] (fun kv i => ∃ a : Nat, a ≤ len ∧ i = .int .i64 a ∧ kv = .int .i64 ((k + a : Nat) : Int)) (fun _ i => len - (intOf i).toNat)
  case atStart => exact ⟨0, by omega, rfl, by simp⟩
  case round =>
    obtain ⟨a, ha, rfl, rfl⟩ := hrel
    by_cases hlt : a < len
    · have e0 : IntKind.i64.wrap ((a : Int) + 1) = (a : Int) + 1 := IntWalk.i64_in _ (by omega)
      have x0 : w.cell? ⟨g, off + a, none⟩ = some (.int .i64 ((k : Int) + (a : Int))) := by rw [Hc.out _ hlt, markVI]; congr 1
      go_wp2_with fail
      exact ⟨⟨a + 1, by omega, by go_num, by go_num⟩, by simp [intOf]; omega⟩
    · obtain rfl : a = len := by omega
      go_wp2_with fail
      go_ret
      exact ⟨rfl, rfl⟩
structure RowB (w : World) (lo hi g : Nat) (cs : Array Value) (G : Nat) (D : Array Value) (n : Nat) (row : Nat → List Int) : Prop where
  out : At w g (.cells cs 49 (0, 0))
  og : lo ≤ g ∧ g < hi
  cell : ∀ i, i < n → cs[i]? = some (.slice (some ⟨G, tot row i, none⟩) (row i).length (row i).length)
  blk : At w G (.cells D 2 (0, 0))
  oG : lo ≤ G ∧ G < hi
  size : tot row n ≤ D.size
  nums : ∀ i, i < n → ∀ (t : Nat) (X : Int), (row i)[t]? = some X → D[tot row i + t]? = some (.int .i64 X)
/-- A list of rows, in memory from lo to hi, whose rows are parts of one list, one behind the other. -/
def OwnR (w : World) (lo hi : Nat) (v : Value) (n : Nat) (row : Nat → List Int) : Prop :=
  (v = .slice none 0 0 ∧ n = 0) ∨ ∃ g c cs G D, v = .slice (some ⟨g, 0, none⟩) n c ∧ RowB w lo hi g cs G D n row
theorem OwnR.nil (w : World) (lo hi : Nat) (row : Nat → List Int) : OwnR w lo hi (.slice none 0 0) 0 row := .inl ⟨rfl, rfl⟩
section
variable {w w' : World} {lo hi lo' hi' g G n : Nat} {cs D : Array Value} {row : Nat → List Int} {v : Value}
theorem RowB.keepR (h : RowB w lo hi g cs G D n row) (keep : ∀ x o, lo ≤ x → x < hi → At w x o → At w' x o) : RowB w' lo hi g cs G D n row :=
  ⟨keep _ _ h.og.1 h.og.2 h.out, h.og, h.cell, keep _ _ h.oG.1 h.oG.2 h.blk, h.oG, h.size, h.nums⟩
theorem OwnR.below (h : OwnR w lo hi v n row) (hb : Below w.heap.size w w') : OwnR w' lo hi v n row := by
  rcases h with h0 | ⟨g, c, cs, G, D, hv, hm⟩
  · exact .inl h0
  · exact .inr ⟨g, c, cs, G, D, hv, hm.keepR fun _ _ _ _ hx => hx.after hb⟩
theorem OwnR.same (h : OwnR w lo hi v n row) (hs : Same lo' hi' w w') (hd : hi ≤ lo' ∨ hi' ≤ lo) : OwnR w' lo hi v n row := by
  rcases h with h0 | ⟨g, c, cs, G, D, hv, hm⟩
  · exact .inl h0
  · exact .inr ⟨g, c, cs, G, D, hv, hm.keepR fun x _ h1 h2 hx => (hs.block x hx.lt (by omega)).trans hx⟩
theorem OwnR.drewN (h : OwnR w lo hi v n row) (j : Nat) : OwnR (w.drewN j) lo hi v n row := h.below (below_drawn (Below.refl _ _) j)
theorem OwnR.rd (h : OwnR w lo hi v n row) : ∃ A c, v = .slice A n c ∧ RdM w A n row := by
  rcases h with ⟨rfl, rfl⟩ | ⟨g, c, cs, G, D, rfl, hm⟩
  · exact ⟨none, 0, rfl, .inl rfl⟩
  · exact ⟨_, _, rfl, .inr ⟨g, 0, rfl, fun i hi => ⟨_, _, by rw [hm.out.at_, Nat.zero_add, hm.cell i hi], .inr ⟨G, tot row i, rfl, fun t x ht => by rw [hm.blk.at_]; exact hm.nums i hi t x ht⟩⟩⟩⟩
theorem OwnR.rd' {A : Option Addr} {c m : Nat} (h : OwnR w lo hi (.slice A m c) n row) : RdM w A n row := by
  obtain ⟨A', c', e, hr⟩ := h.rd
  simp only [Value.slice.injEq] at e
  rw [e.1]
  exact hr
theorem OwnR.mono (h : OwnR w lo hi v n row) (hl : lo' ≤ lo) (hh : hi ≤ hi') : OwnR w lo' hi' v n row := by
  rcases h with h0 | ⟨g, c, cs, G, D, hv, hm⟩
  · exact .inl h0
  · exact .inr ⟨g, c, cs, G, D, hv, hm.out, ⟨Nat.le_trans hl hm.og.1, Nat.lt_of_lt_of_le hm.og.2 hh⟩, hm.cell, hm.blk, ⟨Nat.le_trans hl hm.oG.1, Nat.lt_of_lt_of_le hm.oG.2 hh⟩, hm.size, hm.nums⟩
theorem RowB.ne (h : RowB w lo hi g cs G D n row) : g ≠ G := fun e => by
  have h1 := h.out
  rw [e] at h1
  have h2 := h1.symm.trans h.blk
  simp only [Option.some.injEq, Obj.cells.injEq] at h2
  exact absurd h2.2.1 (by decide)
/-- The call answers these rows, parts of one list, in memory of its own, and this code. -/
def ResR (w : World) (n : Nat) (row : Nat → List Int) (code : Int) (e : Ending) (w' : World) : Prop :=
  ∃ v, e = .returned (.tuple #[v, .int .i64 code]) ∧ OwnR w' w.heap.size w'.heap.size v n row ∧ Below w.heap.size w w'
end
theorem tot_mark (K : Nat) (row : Nat → List Int) (i : Nat) : tot (markRow K row) i = tot row i := by
  induction i with
  | zero => rfl
  | succ i ih => simp only [tot, ih, markRow_len]
theorem markRow_get {K : Nat} {row : Nat → List Int} {i t : Nat} {X : Int} (h : (markRow K row i)[t]? = some X) : t < (row i).length ∧ X = ((K + tot row i + t : Nat) : Int) := by
  have h1 := List.getElem?_eq_some_iff.1 h
  obtain ⟨h2, h3⟩ := h1
  rw [markRow_len] at h2
  refine ⟨h2, ?_⟩
  rw [← h3]
  simp [markRow]
set_option maxHeartbeats 800000 in
theorem markR_2 {lo hi : Nat} {v : Value} (K : Nat) (k : Int) (n : Nat) (row : Nat → List Int) (w : World) (hk' : k = (K : Int)) (h : OwnR w lo hi v n row) (ht : n + tot row n ≤ 1048576) (hk : K ≤ 1000000000) :
    Calls Try.prog 12 #[v, .int .i64 k] w fun e w' => e = .returned (.int .i64 ((K + tot row n : Nat) : Int)) ∧ OwnR w' lo hi v n (markRow K row) ∧ Same lo hi w w' := by
  subst hk'
  rcases h with ⟨rfl, rfl⟩ | ⟨g, c, cs, G, D, rfl, hm⟩
  · refine (markInt64SS_2 K K 0 row w rfl (OwnM.nil w lo hi row) ht hk).mono ?_
    rintro e w' ⟨h1, h2, h3⟩
    exact ⟨h1, OwnR.nil _ _ _ _, h3⟩
  · go_enter Try.func12, Try.ntmps12
    go_wp2_with fail
    go_loopw [1, 5] (fun kv i wr => ∃ a : Nat, a ≤ n ∧ i = .int .i64 a ∧ kv = .int .i64 ((K + tot row a : Nat) : Int) ∧ At wr g (.cells cs 49 (0, 0)) ∧ At wr G (.cells (markCI D K (tot row a)) 2 (0, 0)) ∧ Same lo hi w wr) (fun _ i _ => n - (intOf i).toNat)
    case atStart => exact ⟨0, by omega, rfl, by simp [tot], hm.out, by rw [show tot row 0 = 0 from rfl, markCI_zero]; exact hm.blk, Same.refl _ _ _⟩
    case round =>
      obtain ⟨a, ha, rfl, rfl, hO, hD, hS⟩ := hrel
      have hcell := hm.cell
      have hsz := hm.size
      have hne := hm.ne
      have hoG := hm.oG
      have hog := hm.og
      clear hm
      by_cases hlt : a < n
      · have e0 : IntKind.i64.wrap ((a : Int) + 1) = (a : Int) + 1 := IntWalk.i64_in _ (by omega)
        have hk' : (a : Int) < (n : Int) := by omega
        have t1 := tot_mono row (show a + 1 ≤ n by omega)
        simp only [tot] at t1
        have c0 := hcell a hlt
        have hc : wr.cell? ⟨g, a, none⟩ = some (.slice (some ⟨G, tot row a, none⟩) (row a).length (row a).length) := by rw [hO.at_ a, c0]
        have HC := Lib.hid (markInt64S_part G (tot row a) (row a).length (row a).length (K + tot row a) K D 2 wr hD (by omega) rfl (by omega) (by omega))
        go_wp2_with fail
        refine HC.out.mono ?_
        rintro e w2 ⟨rfl, hA, hG⟩
        have hO2 : At w2 g (.cells cs 49 (0, 0)) := (hG.block g hO.lt (by simpa using hne)).trans hO
        have hS2 := hS.trans (Same.of_grown hG hoG)
        clear HC hS hG hO
        go_wp2_with fail
        exact ⟨⟨a + 1, by omega, by go_num, by simp [tot]; omega, hO2, by simp only [tot]; exact hA, hS2⟩, by simp [intOf]; omega⟩
      · obtain rfl : a = n := by omega
        go_wp2_with fail
        go_ret
        refine ⟨rfl, .inr ⟨g, c, cs, G, _, rfl, hO, hog, fun i hi => by rw [tot_mark, markRow_len]; exact hcell i hi, hD, hoG, by rw [tot_mark, markCI_size hsz]; exact hsz, fun i hi t X hX => ?_⟩, hS⟩
        obtain ⟨h1, rfl⟩ := markRow_get hX
        have t1 := tot_mono row (show i + 1 ≤ a by omega)
        simp only [tot] at t1
        rw [tot_mark, markCI_get (by omega), markVI, Nat.add_assoc]
set_option maxHeartbeats 800000 in
theorem heldR_2 {lo hi : Nat} {v : Value} (n : Nat) (row : Nat → List Int) (w : World) (h : OwnR w lo hi v n (markRow 1 row)) (ht : n + tot row n ≤ 1048576) :
    Calls Try.prog 13 #[v, .int .i64 1] w fun e w' => e = .returned (.int .i64 ((1 + tot row n : Nat) : Int)) ∧ w = w' := by
  rcases h with ⟨rfl, rfl⟩ | ⟨g, c, cs, G, D, rfl, hm⟩
  · exact heldInt64SS_2 0 row w (OwnM.nil w lo hi _) ht
  · go_enter Try.func13, Try.ntmps13
    go_wp2_with fail
    go_loop [1, 5] (fun kv i => ∃ a : Nat, a ≤ n ∧ i = .int .i64 a ∧ kv = .int .i64 ((1 + tot row a : Nat) : Int)) (fun _ i => n - (intOf i).toNat)
    case atStart => exact ⟨0, by omega, rfl, by simp [tot]⟩
    case round =>
      obtain ⟨a, ha, rfl, rfl⟩ := hrel
      by_cases hlt : a < n
      · have e0 : IntKind.i64.wrap ((a : Int) + 1) = (a : Int) + 1 := IntWalk.i64_in _ (by omega)
        have hk' : (a : Int) < (n : Int) := by omega
        have t1 := tot_mono row (show a + 1 ≤ n by omega)
        simp only [tot] at t1
        have c0 := hm.cell a hlt
        rw [markRow_len, tot_mark] at c0
        have hc : w.cell? ⟨g, a, none⟩ = some (.slice (some ⟨G, tot row a, none⟩) (row a).length (row a).length) := by rw [hm.out.at_ a, c0]
        have HC := Lib.hid (heldInt64S_part G (tot row a) (row a).length (row a).length (1 + tot row a) w (fun i hi => by
          have h2 := hm.nums a hlt i ((1 + tot row a + i : Nat) : Int) (by simp [markRow, hi])
          rw [tot_mark] at h2
          rw [hm.blk.at_, h2, markVI]) (by omega) (by omega))
        have hneg : ¬ ((1 + tot row a + (row a).length : Nat) : Int) < 0 := by omega
        have hneg' : ¬ (1 : Int) + ((tot row a : Nat) : Int) + ((row a).length : Int) < 0 := by omega
        clear hm
        go_wp2_with fail
        refine HC.out.mono ?_
        rintro e w2 ⟨rfl, rfl⟩
        go_wp2_with fail
        exact ⟨⟨a + 1, by omega, by go_num, by simp [tot]; omega⟩, by simp [intOf]; omega⟩
      · obtain rfl : a = n := by omega
        go_wp2_with fail
        go_ret
        exact ⟨rfl, rfl⟩
end Go.Proofs.Ytebmkmkhfhmfbaa
