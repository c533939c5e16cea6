/-
  Twigs in memory of their own; laws.szBorder, eqBorder, markBorder, heldBorder; answers that are border schemes. (Made by mktw.py.)
-/
import Derived.Test.YtnlidegmllcdhaaTw0
import Derived.Test.YtnlidegmllcdhaaSx
namespace Go.Proofs.Ytnlidegmllcdhaa
open Go.RowKit
set_option maxRecDepth 100000
def OwnT (w : World) (lo : Nat) (v : Value) (qs : List (List Nat)) : Prop := w.ownsRow lo 52 108 v qs.length (u8s qs.flatten).toList
theorem OwnT.shp {w : World} {lo : Nat} {v : Value} {qs : List (List Nat)} (h : OwnT w lo v qs) : Shp v qs.length := by
  rcases h.2 with ⟨hv, hn⟩ | ⟨g, cap, cur, hv, _⟩
  · exact .inl ⟨hv, hn⟩
  · exact .inr ⟨g, cap, hv⟩
theorem OwnT.lt {w : World} {lo : Nat} {v : Value} {qs : List (List Nat)} (h : OwnT w lo v qs) {g : Nat} (hg : v.ownBlock = some g) : lo ≤ g ∧ g < w.heap.size := by
  rcases h.2 with ⟨rfl, _⟩ | ⟨g', cap, cur, rfl, hb, hgg, _⟩
  · cases hg
  · simp only [Value.ownBlock, Option.some.injEq] at hg
    subst hg
    exact ⟨hb, (Array.getElem?_eq_some_iff.1 hgg).1⟩
theorem OwnT.below {w w' : World} {lo : Nat} {v : Value} {qs : List (List Nat)} (h : OwnT w lo v qs) (hb : Below w.heap.size w w') : OwnT w' lo v qs :=
  World.ownsRow.kept (row := none) h ⟨hb.os, hb.tape, hb.output, hb.size, fun k hk _ => hb.block k hk⟩ (by
    rcases hv : v.ownBlock with _ | g
    · exact .inl rfl
    · exact .inr (by simp))
theorem OwnT.drew {w : World} {lo : Nat} {v : Value} {qs : List (List Nat)} (h : OwnT w lo v qs) : OwnT w.drew lo v qs := h
theorem OwnT.grown {w w' : World} {lo : Nat} {v : Value} {qs : List (List Nat)} {r : Option Nat} (h : OwnT w lo v qs) (hb : w.grownBy w' r) (hne : v.ownBlock = none ∨ v.ownBlock ≠ r) : OwnT w' lo v qs :=
  World.ownsRow.kept h hb hne
theorem OwnT.mono {w : World} {lo lo' : Nat} {v : Value} {qs : List (List Nat)} (h : OwnT w lo v qs) (hl : lo' ≤ lo) : OwnT w lo' v qs := by
  refine ⟨h.1, ?_⟩
  rcases h.2 with hn | ⟨g, cap, cur, hv, hb, rest⟩
  · exact .inl hn
  · exact .inr ⟨g, cap, cur, hv, Nat.le_trans hl hb, rest⟩
/-- Such a slice value, written out; it reads as the products. -/
theorem OwnT.rd {w : World} {lo : Nat} {v : Value} {qs : List (List Nat)} (h : OwnT w lo v qs) (hq : ∀ q ∈ qs, Bytes 108 q) : ∃ A c, v = .slice A qs.length c ∧ RdT w A qs := by
  rcases h.2 with ⟨rfl, h0⟩ | ⟨g, cap, cur, rfl, hb, hgg, hle, hcap, hsz, ht⟩
  · have : qs = [] := List.length_eq_zero_iff.1 h0
    subst this
    exact ⟨none, 0, rfl, RdT.none_ _ _⟩
  · refine ⟨_, _, rfl, hq, .inr ⟨g, 0, rfl, fun i q hi j hj => ?_⟩⟩
    have hl : ∀ q ∈ qs, q.length = 108 := fun q hm => (hq q hm).len
    have hlt : i < qs.length := (List.getElem?_eq_some_iff.1 hi).1
    have e := flat_get hl hi hj
    have hb : i * 108 + j < qs.flatten.length := by
      rw [flat_len hl]
      have : (i + 1) * 108 ≤ qs.length * 108 := Nat.mul_le_mul_right _ hlt
      omega
    have hA : At w g (.cells cur 52 (0, 0)) := hgg
    rw [hA.at_, Nat.zero_add, ← Array.getElem?_toList]
    have h1 : (cur.toList.take (qs.length * 108))[i * 108 + j]? = (u8s qs.flatten).toList[i * 108 + j]? := by rw [ht]
    rw [List.getElem?_take, if_pos (by rw [← flat_len hl]; exact hb)] at h1
    rw [h1, Array.getElem?_toList, u8s_get hb, e]
/-- New products in a block of just their size. -/
theorem OwnT.of_at {w : World} {lo g : Nat} {qs : List (List Nat)} (h : At w g (.cells (u8s qs.flatten) 52 (0, 0))) (hq : ∀ q ∈ qs, q.length = 108) (hl : lo ≤ g) (hn : qs.length ≤ 1048576) : OwnT w lo (.slice (some ⟨g, 0, none⟩) qs.length qs.length) qs := by
  refine ⟨by rw [Array.length_toList, u8s_size, flat_len hq], .inr ⟨g, qs.length, u8s qs.flatten, rfl, hl, h, Nat.le_refl _, by unfold maxLen; omega, by rw [u8s_size, flat_len hq], ?_⟩⟩
  rw [List.take_of_length_le (by rw [Array.length_toList, u8s_size, flat_len hq]; exact Nat.le_refl _)]
theorem OwnT.ne {w w' : World} {lo lo' : Nat} {v v' : Value} {qs qs' : List (List Nat)} (h : OwnT w lo v qs) (h' : OwnT w' lo' v' qs') (hl : w.heap.size ≤ lo') : v.ownBlock = none ∨ v.ownBlock ≠ v'.ownBlock := by
  rcases hv : v.ownBlock with _ | g
  · exact .inl rfl
  · refine .inr fun e => ?_
    have h1 := (h.lt hv).2
    have h2 := (h'.lt e.symm).1
    omega
theorem OwnT.away {w w' : World} {lo' g : Nat} {v' : Value} {qs' : List (List Nat)} {o : Obj} (h : At w g o) (h' : OwnT w' lo' v' qs') (hl : w.heap.size ≤ lo') : some g ≠ v'.ownBlock := fun e => by
  have h1 := h.lt
  have h2 := (h'.lt e.symm).1
  omega
theorem OwnT.away_new {w : World} {lo' : Nat} {v' : Value} {qs' : List (List Nat)} (h' : OwnT w lo' v' qs') : some w.heap.size ≠ v'.ownBlock := fun e => by
  have h2 := (h'.lt e.symm).2
  omega
theorem OwnT.rd' {w : World} {lo : Nat} {A : Option Addr} {c n : Nat} {qs : List (List Nat)} (h : OwnT w lo (.slice A n c) qs) (hq : ∀ q ∈ qs, Bytes 108 q) : RdT w A qs := by
  obtain ⟨A', c', e, hr⟩ := h.rd hq
  simp only [Value.slice.injEq] at e
  rw [e.1]
  exact hr
theorem OwnT.len {w : World} {lo : Nat} {A : Option Addr} {c n : Nat} {qs : List (List Nat)} (h : OwnT w lo (.slice A n c) qs) : n = qs.length := by
  rcases h.2 with ⟨e, h0⟩ | ⟨g, cap, cur, e, _⟩
  · simp only [Value.slice.injEq] at e
    omega
  · simp only [Value.slice.injEq] at e
    exact e.2.1
theorem OwnT.off {w : World} {lo g : Nat} {v : Value} {qs : List (List Nat)} {cs : Array Value} {t : TypeId} (h : OwnT w lo v qs) (hg : At w g (.cells cs t (0, 0))) (ht : t ≠ 52) : some g ≠ v.ownBlock := fun e => by
  rcases h.2 with ⟨rfl, _⟩ | ⟨g', cap, cur, rfl, hb, hgg, _⟩
  · cases e
  · simp only [Value.ownBlock, Option.some.injEq] at e
    subst e
    have h1 : some (Obj.cells cs t (0, 0)) = some (Obj.cells cur 52 (0, 0)) := hg.symm.trans hgg
    simp only [Option.some.injEq, Obj.cells.injEq] at h1
    exact ht h1.2.1
theorem OwnT.put {w w' : World} {lo g : Nat} {v : Value} {qs : List (List Nat)} {o : Obj} (h : OwnT w lo v qs) (hp : Put w w' g o) (hne : some g ≠ v.ownBlock) : OwnT w' lo v qs := by
  refine ⟨h.1, ?_⟩
  rcases h.2 with hn | ⟨g2, cap, cur, rfl, hb, hgg, rest⟩
  · exact .inl hn
  · exact .inr ⟨g2, cap, cur, rfl, hb, hp.other (k := g2) hgg (fun e => hne (by simp [Value.ownBlock, e])), rest⟩
theorem OwnT.inn {w : World} {lo : Nat} {v : Value} {qs : List (List Nat)} (h : OwnT w lo v qs) : In lo w.heap.size v := fun _ hg => h.lt hg
theorem OwnT.same {w w' : World} {lo hi lo' hi' : Nat} {v : Value} {qs : List (List Nat)} (h : OwnT w lo v qs) (i : In lo hi v) (hs : Same lo' hi' w w') (hd : hi ≤ lo' ∨ hi' ≤ lo) : OwnT w' lo v qs := kept_same (w := w) h i hs hd
theorem OwnT.nil (w : World) (lo : Nat) : OwnT w lo (.slice none 0 0) [] := World.ownsRow_nil _ _ _ _
theorem OwnT.ne_lt {w : World} {lo g : Nat} {v : Value} {qs : List (List Nat)} (h : OwnT w lo v qs) (hg : g < lo) : some g ≠ v.ownBlock := fun e => by
  have := (h.lt e.symm).1
  omega
theorem OwnT.rdc' {w : World} {lo : Nat} {v : Value} {qs : List (List Nat)} (h : OwnT w lo v qs) (hq : ∀ q ∈ qs, Bytes 108 q) : ∃ A c, v = .slice A qs.length c ∧ RdT w A qs ∧ (A = none → c = 0) := by
  rcases h.2 with ⟨rfl, h0⟩ | ⟨g, cap, cur, rfl, _⟩
  · have : qs = [] := List.length_eq_zero_iff.1 h0
    subst this
    exact ⟨none, 0, rfl, RdT.none_ _ _, fun _ => rfl⟩
  · obtain ⟨A, c, e, hr⟩ := h.rd hq
    refine ⟨A, c, e, hr, fun hA => ?_⟩
    subst hA
    simp at e
def EqA4Rel (w : World) (f : List Nat) (i : Value) (wr : World) : Prop :=
  ∃ k : Nat, k ≤ 4 ∧ i = .int .i64 k ∧ Below w.heap.size w wr ∧ At wr w.heap.size (.cells (u8s f) 48 (0, 0)) ∧ At wr (w.heap.size + 1) (.cells (u8s f) 48 (0, 0))
set_option maxHeartbeats 400000 in
theorem eqByteA4_c (f : List Nat) (hf : Bytes 4 f) (w : World) :
    Calls Try.prog 88 #[.agg (u8s f), .agg (u8s f)] w fun e w' => e = .returned (.bool true) ∧ Below w.heap.size w w' := by
  go_enter Try.func88, Try.ntmps88
  go_wp2_with fail
  go_loopw [5] (fun i wr => EqA4Rel w f i wr) (fun i _ => 4 - (intOf i).toNat)
  case atStart => exact ⟨0, by omega, rfl, below2 _ _ _, al2_0 _ _ _, al2_1 _ _ _⟩
  case round =>
    obtain ⟨k, hk, rfl, hB, h0, h1⟩ := hrel
    by_cases hlt : k < 4
    · have c0 := h0.cell (i := k) (by rw [hf.len]; exact hlt)
      have c1 := h1.cell (i := k) (by rw [hf.len]; exact hlt)
      have hlt' : (k : Int) < 4 := by omega
      have hb : ((((f[k]?.getD 0 : Nat)) : Int) != ((f[k]?.getD 0 : Nat) : Int)) = false := by simp
      go_wp2_with fail
      go_quiet (fail)
      go_wp2_with fail
      go_roundw
      case rel => exact ⟨k + 1, by omega, by go_num, below_drawn hB _, h0.drewN _, h1.drewN _⟩
      case measure => simp [intOf]; omega
    · obtain rfl : k = 4 := by omega
      go_wp2_with fail
      go_ret
      exact ⟨rfl, hB⟩
theorem exec_index_arr0 {P : Program} {o : Oper} {a : Act} {w : World} (ty e : TypeId) (x i : Operand) (ho : o.op = .indexAddr ty x i) (b len k s : Nat) (hx : a.eval x = .pointer (some ⟨b, 0, none⟩)) (hi : a.eval i = .int .i64 k) (hu : P.underlying ty = some (.array len e)) (hs : (P.info? e).map (·.size) = some s) (hlt : k < len) : (execOp a.eval o).run P w = .ok (.value (.pointer (some ⟨b, k * s, none⟩))) w := by
  have h := exec_index_arr (P := P) (w := w) ty e x i ho b 0 len k s hx hi hu hs hlt
  rwa [Nat.zero_add] at h
set_option maxHeartbeats 4000000 in
theorem eqSeries_c (f : List Nat) (hf : Bytes 36 f) (w : World) :
    Calls Try.prog 81 #[.agg (u8s f), .agg (u8s f)] w (fun e w' => e = .returned (.bool true) ∧ Below w.heap.size w w') := by
  have hB := Below.refl w.heap.size w
  have Hf := Lib.hid hf.len
  go_enter Try.func81, Try.ntmps81
  go_upto_region 0 with (fail)
  refine wp_region_lit ?_
  refine ls_op rfl (fun K' hK' => ?_)
  have lz1 := hB.size
  refine wp_new (some 2) rfl (exec_box 50 _ rfl (u8s (f)) rfl) (fun Wz2 nnz3 => ?_)
  have bz4 := nnz3.below (Below.refl _ _) (Nat.le_refl _)
  replace hB := below_after hB bz4
  have hz5 : At Wz2 w.heap.size (.cells (u8s (f)) 50 (0, 0)) := nnz3.at_
  refine hK' _ _ ?_
  clear hK' K' nnz3 bz4
  go_frame
  refine ls_op rfl (fun K' hK' => ?_)
  have lz6 := hB.size
  have lz7 := hz5.lt
  refine wp_new (some 3) rfl (exec_box 50 _ rfl (u8s (f)) rfl) (fun Wz8 nnz9 => ?_)
  have bz10 := nnz9.below (Below.refl _ _) (Nat.le_refl _)
  replace hB := below_after hB bz10
  replace hz5 := hz5.after bz10
  have hz11 : At Wz8 Wz2.heap.size (.cells (u8s (f)) 50 (0, 0)) := nnz9.at_
  refine hK' _ _ ?_
  clear hK' K' nnz9 bz10
  go_frame
  refine ls_ex (some 4) (.bool false) rfl rfl (exec_assign _ rfl (.bool false) rfl) ?_
  go_frame
  refine wpList_nil ?_
  go_upto_region 1 with (fail)
  refine wp_region_lit ?_
  refine ls_ex (some 5) (.int .i64 0) rfl rfl (exec_assign _ rfl (.int .i64 0) rfl) ?_
  go_frame
  refine wpList_nil ?_
  go_wp2_with fail
  go_loopw [5] (fun s5 wr => ∃ k : Nat, k ≤ 9 ∧ s5 = .int .i64 k ∧ Below w.heap.size w wr ∧ At wr w.heap.size (.cells (u8s (f)) 50 (0, 0)) ∧ At wr Wz2.heap.size (.cells (u8s (f)) 50 (0, 0))) (fun s5 _ => 9 - (intOf s5).toNat)
  case atStart => exact ⟨0, by omega, rfl, hB, hz5, hz11⟩
  case round =>
    clear hB hz5 hz11
    obtain ⟨k, hk, rfl, hB, h0, h1⟩ := hrel
    by_cases hlt : k < 9
    · go_upto_region 2 with (fail)
      refine wp_region_lit ?_
      refine ls_ex (some 6) (.int .i64 k) rfl rfl (exec_move _ rfl (.int .i64 k) rfl) ?_
      go_frame
      refine ls_ex (some 7) (.bool true) rfl rfl (exec_lss _ _ _ _ rfl k 9 rfl rfl true (decide_eq_true (by omega))) ?_
      go_frame
      refine wpList_nil ?_
      go_upto_region 4 with (fail)
      refine wp_region_y (zs := []) (S := fun w' => Below w.heap.size w w' ∧ At w' w.heap.size (.cells (u8s (f)) 50 (0, 0)) ∧ At w' Wz2.heap.size (.cells (u8s (f)) 50 (0, 0))) (S2 := fun w' => True) (by kernel_rfl) ?_
      change wpAnyY _ _ _ _ _ _ _ _ _ _ (World.drew _)
      generalize hwdz12 : World.drew _ = wdz12
      replace hB : Below w.heap.size w wdz12 := by rw [← hwdz12]; exact hB.drew
      replace h0 : At wdz12 w.heap.size (.cells (u8s (f)) 50 (0, 0)) := by rw [← hwdz12]; exact h0
      replace h1 : At wdz12 Wz2.heap.size (.cells (u8s (f)) 50 (0, 0)) := by rw [← hwdz12]; exact h1
      clear hwdz12
      refine y_yield 0 (some 10) (.int .i64 k) rfl (by kernel_rfl) (by kernel_rfl) (by kernel_rfl) (fun _ _ _ h => h) rfl rfl ⟨hB, h0, h1⟩ (fun w' h' => exec_move _ rfl (.int .i64 k) rfl) ?_
      go_frame
      refine y_yield 1 (some 11) (.pointer (some ⟨w.heap.size, k * 4, none⟩)) rfl (by kernel_rfl) (by kernel_rfl) (by kernel_rfl) (fun _ _ _ h => h) rfl rfl ⟨hB, h0, h1⟩ (fun w' h' => exec_index_arr0 50 48 _ _ rfl w.heap.size 9 k 4 rfl rfl Try.underlying50 (by kernel_rfl) hlt) ?_
      go_frame
      refine y_yield 2 (some 12) (.agg (u8s (segm f (k * 4) 4))) rfl (by kernel_rfl) (by kernel_rfl) (by kernel_rfl) (fun _ _ _ h => h) rfl rfl ⟨hB, h0, h1⟩ (fun w' h' => exec_load_seg 48 _ rfl w.heap.size (k * 4) rfl _ f _ 4 h'.2.1 Try.underlying48 rfl (by kernel_rfl) (by have := Hf.out; omega) (segm f (k * 4) 4) rfl) ?_
      go_frame
      refine y_yield 3 (some 13) (.int .i64 k) rfl (by kernel_rfl) (by kernel_rfl) (by kernel_rfl) (fun _ _ _ h => h) rfl rfl ⟨hB, h0, h1⟩ (fun w' h' => exec_move _ rfl (.int .i64 k) rfl) ?_
      go_frame
      refine y_yield 4 (some 14) (.pointer (some ⟨Wz2.heap.size, k * 4, none⟩)) rfl (by kernel_rfl) (by kernel_rfl) (by kernel_rfl) (fun _ _ _ h => h) rfl rfl ⟨hB, h0, h1⟩ (fun w' h' => exec_index_arr0 50 48 _ _ rfl Wz2.heap.size 9 k 4 rfl rfl Try.underlying50 (by kernel_rfl) hlt) ?_
      go_frame
      refine y_yield 5 (some 15) (.agg (u8s (segm f (k * 4) 4))) rfl (by kernel_rfl) (by kernel_rfl) (by kernel_rfl) (fun _ _ _ h => h) rfl rfl ⟨hB, h0, h1⟩ (fun w' h' => exec_load_seg 48 _ rfl Wz2.heap.size (k * 4) rfl _ f _ 4 h'.2.2 Try.underlying48 rfl (by kernel_rfl) (by have := Hf.out; omega) (segm f (k * 4) 4) rfl) ?_
      go_frame
      refine y_oper 6 (by kernel_rfl) rfl rfl (fun K' hK' => ?_)
      have lz15 := hB.size
      have lz16 := h0.lt
      have lz17 := h1.lt
      refine wp_call2 (some 16) rfl 88 _ _ _ rfl (fun args w => by kernel_rfl) _ _ rfl rfl _ (eqByteA4_c (segm f (k * 4) 4) (segm_bytes hf (by omega)) _) (fun e Wz13 h => ?_)
      obtain ⟨rfl, bz14⟩ := h
      replace hB := below_after hB bz14
      replace h0 := h0.after bz14
      replace h1 := h1.after bz14
      clear bz14
      refine ⟨_, rfl, ?_⟩
      refine hK' _ _ ⟨hB, h0, h1⟩ (fun _ => trivial) ?_
      clear hK' K'
      go_frame
      refine y_yield 7 (some 17) (.bool false) rfl (by kernel_rfl) (by kernel_rfl) (by kernel_rfl) (fun _ _ _ h => h) rfl rfl ⟨hB, h0, h1⟩ (fun w' h' => exec_not _ _ rfl true rfl) ?_
      go_frame
      refine y_done (by kernel_rfl) ?_ _
      go_upto_region 3 with (fail)
      refine wp_region_lit ?_
      refine ls_ex (some 8) (.int .i64 k) rfl rfl (exec_move _ rfl (.int .i64 k) rfl) ?_
      go_frame
      refine ls_ex (some 9) (.int .i64 (k + 1)) rfl rfl (exec_add _ _ _ _ rfl k 1 (k + 1) rfl rfl (IntWalk.i64_in _ (by omega))) ?_
      go_frame
      refine ls_ex (some 5) (.int .i64 (k + 1)) rfl rfl (exec_assign _ rfl (.int .i64 (k + 1)) rfl) ?_
      go_frame
      refine wpList_nil ?_
      go_wp2_with fail
      go_roundw
      case rel => exact ⟨k + 1, by omega, by go_num, hB, h0, h1⟩
      case measure => simp [intOf]; omega
    · go_upto_region 2 with (fail)
      refine wp_region_lit ?_
      refine ls_ex (some 6) (.int .i64 k) rfl rfl (exec_move _ rfl (.int .i64 k) rfl) ?_
      go_frame
      refine ls_ex (some 7) (.bool false) rfl rfl (exec_lss _ _ _ _ rfl k 9 rfl rfl false (decide_eq_false (by omega))) ?_
      go_frame
      refine wpList_nil ?_
      go_upto_region 6 with (fail)
      refine wp_region_lit ?_
      refine ls_ex (some 4) (.bool true) rfl rfl (exec_assign _ rfl (.bool true) rfl) ?_
      go_frame
      refine wpList_nil ?_
      go_wp2_with fail
      go_ret
      exact ⟨rfl, hB⟩

set_option maxHeartbeats 4000000 in
theorem eqTwig_c (q : List Nat) (hq : Bytes 108 q) (w : World) :
    Calls Try.prog 63 #[.agg (u8s q), .agg (u8s q)] w (fun e w' => e = .returned (.bool true) ∧ Below w.heap.size w w') := by
  have hB := Below.refl w.heap.size w
  skip
  go_enter Try.func63, Try.ntmps63
  go_upto_region 0 with (fail)
  refine wp_region_lit ?_
  refine ls_op rfl (fun K' hK' => ?_)
  have lz1 := hB.size
  refine wp_new (some 2) rfl (exec_box 52 _ rfl (u8s (q)) rfl) (fun Wz2 nnz3 => ?_)
  have bz4 := nnz3.below (Below.refl _ _) (Nat.le_refl _)
  replace hB := below_after hB bz4
  have hz5 : At Wz2 w.heap.size (.cells (u8s (q)) 52 (0, 0)) := nnz3.at_
  refine hK' _ _ ?_
  clear hK' K' nnz3 bz4
  go_frame
  refine ls_op rfl (fun K' hK' => ?_)
  have lz6 := hB.size
  have lz7 := hz5.lt
  refine wp_new (some 3) rfl (exec_box 52 _ rfl (u8s (q)) rfl) (fun Wz8 nnz9 => ?_)
  have bz10 := nnz9.below (Below.refl _ _) (Nat.le_refl _)
  replace hB := below_after hB bz10
  replace hz5 := hz5.after bz10
  have hz11 : At Wz8 Wz2.heap.size (.cells (u8s (q)) 52 (0, 0)) := nnz9.at_
  refine hK' _ _ ?_
  clear hK' K' nnz9 bz10
  go_frame
  refine ls_ex (some 4) (.bool false) rfl rfl (exec_assign _ rfl (.bool false) rfl) ?_
  go_frame
  refine wpList_nil ?_
  go_upto_region 1 with (fail)
  refine wp_region_lit ?_
  refine ls_ex (some 5) (.pointer (some ⟨w.heap.size, 0, none⟩)) rfl rfl (exec_fieldAddr 52 _ 0 rfl _ (by kernel_rfl)) ?_
  go_frame
  refine ls_ex (some 6) (.agg (u8s (segm (q) 0 36))) rfl rfl (exec_load_seg 50 _ rfl w.heap.size (0) rfl _ (q) _ 36 hz5 Try.underlying50 rfl (by kernel_rfl) (by rw [hq.len]; omega) (segm (q) 0 36) rfl) ?_
  go_frame
  refine ls_ex (some 7) (.pointer (some ⟨Wz2.heap.size, 0, none⟩)) rfl rfl (exec_fieldAddr 52 _ 0 rfl _ (by kernel_rfl)) ?_
  go_frame
  refine ls_ex (some 8) (.agg (u8s (segm (q) 0 36))) rfl rfl (exec_load_seg 50 _ rfl Wz2.heap.size (0) rfl _ (q) _ 36 hz11 Try.underlying50 rfl (by kernel_rfl) (by rw [hq.len]; omega) (segm (q) 0 36) rfl) ?_
  go_frame
  refine ls_op rfl (fun K' hK' => ?_)
  have lz14 := hB.size
  have lz15 := hz5.lt
  have lz16 := hz11.lt
  refine wp_call2 (some 9) rfl 81 _ _ _ rfl (fun args w => by kernel_rfl) _ _ rfl rfl _ (eqSeries_c (segm (q) 0 36) (segm_bytes hq (by omega)) _) (fun e Wz12 h => ?_)
  obtain ⟨rfl, bz13⟩ := h
  replace hB := below_after hB bz13
  replace hz5 := hz5.after bz13
  replace hz11 := hz11.after bz13
  clear bz13
  refine ⟨_, rfl, ?_⟩
  refine hK' _ _ ?_
  clear hK' K'
  go_frame
  refine ls_ex (some 10) (.bool false) rfl rfl (exec_not _ _ rfl true rfl) ?_
  go_frame
  refine wpList_nil ?_
  go_upto_region 3 with (fail)
  refine wp_region_lit ?_
  refine ls_ex (some 11) (.pointer (some ⟨w.heap.size, 36, none⟩)) rfl rfl (exec_fieldAddr 52 _ 1 rfl _ (by kernel_rfl)) ?_
  go_frame
  refine ls_ex (some 12) (.agg (u8s (segm (q) 36 36))) rfl rfl (exec_load_seg 50 _ rfl w.heap.size (36) rfl _ (q) _ 36 hz5 Try.underlying50 rfl (by kernel_rfl) (by rw [hq.len]; omega) (segm (q) 36 36) rfl) ?_
  go_frame
  refine ls_ex (some 13) (.pointer (some ⟨Wz2.heap.size, 36, none⟩)) rfl rfl (exec_fieldAddr 52 _ 1 rfl _ (by kernel_rfl)) ?_
  go_frame
  refine ls_ex (some 14) (.agg (u8s (segm (q) 36 36))) rfl rfl (exec_load_seg 50 _ rfl Wz2.heap.size (36) rfl _ (q) _ 36 hz11 Try.underlying50 rfl (by kernel_rfl) (by rw [hq.len]; omega) (segm (q) 36 36) rfl) ?_
  go_frame
  refine ls_op rfl (fun K' hK' => ?_)
  have lz19 := hB.size
  have lz20 := hz5.lt
  have lz21 := hz11.lt
  refine wp_call2 (some 15) rfl 81 _ _ _ rfl (fun args w => by kernel_rfl) _ _ rfl rfl _ (eqSeries_c (segm (q) 36 36) (segm_bytes hq (by omega)) _) (fun e Wz17 h => ?_)
  obtain ⟨rfl, bz18⟩ := h
  replace hB := below_after hB bz18
  replace hz5 := hz5.after bz18
  replace hz11 := hz11.after bz18
  clear bz18
  refine ⟨_, rfl, ?_⟩
  refine hK' _ _ ?_
  clear hK' K'
  go_frame
  refine ls_ex (some 16) (.bool false) rfl rfl (exec_not _ _ rfl true rfl) ?_
  go_frame
  refine wpList_nil ?_
  go_upto_region 5 with (fail)
  refine wp_region_lit ?_
  refine ls_ex (some 17) (.pointer (some ⟨w.heap.size, 72, none⟩)) rfl rfl (exec_fieldAddr 52 _ 2 rfl _ (by kernel_rfl)) ?_
  go_frame
  refine ls_ex (some 18) (.agg (u8s (segm (q) 72 36))) rfl rfl (exec_load_seg 50 _ rfl w.heap.size (72) rfl _ (q) _ 36 hz5 Try.underlying50 rfl (by kernel_rfl) (by rw [hq.len]; omega) (segm (q) 72 36) rfl) ?_
  go_frame
  refine ls_ex (some 19) (.pointer (some ⟨Wz2.heap.size, 72, none⟩)) rfl rfl (exec_fieldAddr 52 _ 2 rfl _ (by kernel_rfl)) ?_
  go_frame
  refine ls_ex (some 20) (.agg (u8s (segm (q) 72 36))) rfl rfl (exec_load_seg 50 _ rfl Wz2.heap.size (72) rfl _ (q) _ 36 hz11 Try.underlying50 rfl (by kernel_rfl) (by rw [hq.len]; omega) (segm (q) 72 36) rfl) ?_
  go_frame
  refine ls_op rfl (fun K' hK' => ?_)
  have lz24 := hB.size
  have lz25 := hz5.lt
  have lz26 := hz11.lt
  refine wp_call2 (some 21) rfl 81 _ _ _ rfl (fun args w => by kernel_rfl) _ _ rfl rfl _ (eqSeries_c (segm (q) 72 36) (segm_bytes hq (by omega)) _) (fun e Wz22 h => ?_)
  obtain ⟨rfl, bz23⟩ := h
  replace hB := below_after hB bz23
  replace hz5 := hz5.after bz23
  replace hz11 := hz11.after bz23
  clear bz23
  refine ⟨_, rfl, ?_⟩
  refine hK' _ _ ?_
  clear hK' K'
  go_frame
  refine ls_ex (some 22) (.bool false) rfl rfl (exec_not _ _ rfl true rfl) ?_
  go_frame
  refine wpList_nil ?_
  go_upto_region 7 with (fail)
  refine wp_region_lit ?_
  refine ls_ex (some 4) (.bool true) rfl rfl (exec_assign _ rfl (.bool true) rfl) ?_
  go_frame
  refine wpList_nil ?_
  go_wp2_with fail
  go_ret
  exact ⟨rfl, hB⟩

set_option maxHeartbeats 800000 in
theorem eqTwigS_c (A B : Option Addr) (c d : Nat) (qs : List (List Nat)) (w : World) (hq : RdT w A qs) (hr : RdT w B qs) (hn : qs.length ≤ 9000000000000000000) :
    Calls Try.prog 37 #[.slice A qs.length c, .slice B qs.length d] w fun e w' => e = .returned (.bool true) ∧ Below w.heap.size w w' := by
  have hb : (((qs.length : Nat) : Int) != ((qs.length : Nat) : Int)) = false := by simp
  go_enter Try.func37, Try.ntmps37
  go_wp2_with fail
  go_loopw [5] (fun i wr => ∃ k : Nat, k ≤ qs.length ∧ i = .int .i64 k ∧ Below w.heap.size w wr) (fun i _ => qs.length - (intOf i).toNat)
  case atStart => exact ⟨0, by omega, rfl, Below.refl _ _⟩
  case round =>
    obtain ⟨k, hk, rfl, hB⟩ := hrel
    by_cases hlt : k < qs.length
    · obtain ⟨b, off, hA0, hc⟩ := (hq.keep hB).at_ hlt
      obtain ⟨b', off', hB0, hc'⟩ := (hr.keep hB).at_ hlt
      have g1 := hq.good qs[k] (List.getElem_mem hlt)
      have Hc := Lib.hid hc
      have Hc' := Lib.hid hc'
      subst hA0 hB0
      clear hc hc'
      go_wp2_with fail
      refine wp_region_still_tail (P := Try.prog) 8 (by kernel_rfl) (by kernel_rfl) ?_
      simp only [List.take_succ_cons, List.take_zero, List.drop_succ_cons, List.drop_zero]
      refine wpStill_of_exec rfl (exec_move _ rfl (.slice (some ⟨b, off, none⟩) qs.length c) rfl) ?_
      go_frame
      refine wpStill_of_exec rfl (exec_move _ rfl (.int .i64 k) rfl) ?_
      go_frame
      refine wpStill_of_exec rfl (exec_index_slice _ 52 _ _ rfl b off qs.length c k 108 rfl rfl Try.underlying31 (by kernel_rfl) hlt) ?_
      go_frame
      refine wpStill_of_exec rfl (exec_load_cells 52 _ rfl b (off + k * 108) rfl qs[k] _ 108 Hc.out Try.underlying52 rfl (by kernel_rfl) g1.len) ?_
      go_frame
      refine wpStill_of_exec rfl (exec_move _ rfl (.slice (some ⟨b', off', none⟩) qs.length d) rfl) ?_
      go_frame
      refine wpStill_of_exec rfl (exec_move _ rfl (.int .i64 k) rfl) ?_
      go_frame
      refine wpStill_of_exec rfl (exec_index_slice _ 52 _ _ rfl b' off' qs.length d k 108 rfl rfl Try.underlying31 (by kernel_rfl) hlt) ?_
      go_frame
      refine wpStill_of_exec rfl (exec_load_cells 52 _ rfl b' (off' + k * 108) rfl qs[k] _ 108 Hc'.out Try.underlying52 rfl (by kernel_rfl) g1.len) ?_
      go_frame
      refine wpStill_nil ?_
      go_wp2_with fail
      refine (eqTwig_c _ g1 _).mono ?_
      rintro e w2 ⟨rfl, b2⟩
      have hB2 := below_after (hB.drew) b2
      go_wp2_with fail
      go_roundw
      case rel => exact ⟨k + 1, by omega, by go_num, hB2⟩
      case measure => simp [intOf]; omega
    · obtain rfl : k = qs.length := by omega
      go_wp2_with fail
      go_ret
      exact ⟨rfl, hB⟩
set_option maxHeartbeats 400000 in
set_option maxRecDepth 100000 in
theorem eqBorder_c (p n m k : Int) (A B : Option Addr) (c d : Nat) (qs : List (List Nat)) (w : World) (hq : RdT w A qs) (hr : RdT w B qs) (hn : qs.length ≤ 9000000000000000000) :
    Calls Try.prog 12 #[.agg #[.int .i64 p, .int .i64 n, .int .i64 m, .int .i64 k, .slice A qs.length c], .agg #[.int .i64 p, .int .i64 n, .int .i64 m, .int .i64 k, .slice B qs.length d]] w
      fun e w' => e = .returned (.bool true) ∧ Below w.heap.size w w' := by
  go_enter Try.func12, Try.ntmps12
  go_wp2_with fail
  refine (eqTwigS_c A B c d qs _ (hq.keep (below2 _ _ _)) (hr.keep (below2 _ _ _)) hn).mono ?_
  rintro e w1 ⟨rfl, b1⟩
  have hB := below_after (below2 _ _ _) b1
  go_wp2_with fail
  go_ret
  exact ⟨rfl, hB⟩
set_option maxHeartbeats 400000 in
theorem szTwigS_c (A : Option Addr) (n c : Nat) (l : Int) (w : World) (h0 : 0 ≤ l) (hn : n ≤ 9223372036854775807) (hl : l ≤ 1048576) :
    Calls Try.prog 22 #[.slice A n c, .int .i64 l] w fun e w' => e = .returned (.int .i64 (if l < n then -1 else l - n)) ∧ w = w' := by
  by_cases h : l - n < 0
  · have h' : l < n := by omega
    go_enter Try.func22, Try.ntmps22
    go_wp2_with fail
    go_ret
    exact ⟨by simp, rfl⟩
  · have h' : ¬ l < n := by omega
    go_enter Try.func22, Try.ntmps22
    go_wp2_with fail
    go_ret
    exact ⟨by simp, rfl⟩
theorem szBorder_c (p n m k : Int) (A : Option Addr) (len c : Nat) (l : Int) (w : World) (h0 : 0 ≤ l) (hn : len ≤ 9223372036854775807) (hl : l ≤ 1048576) :
    Calls Try.prog 7 #[.agg #[.int .i64 p, .int .i64 n, .int .i64 m, .int .i64 k, .slice A len c], .int .i64 l] w fun e w' => e = .returned (.int .i64 (if l < len then -1 else l - len)) ∧ Below w.heap.size w w' := by
  by_cases h : l < len
  · have h1 := szTwigS_c A len c l
    simp only [if_pos h] at h1
    go_enter Try.func7, Try.ntmps7
    go_wp2_with (go_at_call 22; refine (h1 _ h0 hn hl).mono ?_; rintro e w' ⟨rfl, rfl⟩)
    go_ret
    exact ⟨by simp, below1 _ _⟩
  · have h1 := szTwigS_c A len c l
    simp only [if_neg h] at h1
    have h2 : ¬ l - len < 0 := by omega
    go_enter Try.func7, Try.ntmps7
    go_wp2_with (go_at_call 22; refine (h1 _ h0 hn hl).mono ?_; rintro e w' ⟨rfl, rfl⟩)
    go_ret
    exact ⟨by simp, below1 _ _⟩
theorem szBorder_e (p n m k : Int) (A : Option Addr) (len c : Nat) (l : Int) (w : World) (h0 : 0 ≤ l) (hn : len ≤ 9223372036854775807) (hl : l ≤ 1048576) :
    Calls Try.prog 7 #[.agg #[.int .i64 p, .int .i64 n, .int .i64 m, .int .i64 k, .slice A len c], .int .i64 l] w fun e w' => ∃ r, e = .returned (.int .i64 r) ∧ SzN len l r ∧ Below w.heap.size w w' := by
  refine (szBorder_c p n m k A len c l w h0 hn hl).mono ?_
  rintro e w' ⟨rfl, hb⟩
  refine ⟨_, rfl, ?_, hb⟩
  by_cases h : l < len
  · rw [if_pos h]; exact .inl rfl
  · rw [if_neg h]; exact .inr ⟨by omega, by omega⟩
set_option maxHeartbeats 400000 in
theorem markTwigS_c (v : Value) (n : Nat) (k : Int) (hv : Shp v n) (hn : n ≤ 1048576) (w : World) :
    Calls Try.prog 38 #[v, .int .i64 k] w fun e w' => e = .returned (.int .i64 k) ∧ w = w' := by
  obtain ⟨A, c, rfl⟩ : ∃ A c, v = .slice A n c := by
    rcases hv with ⟨rfl, rfl⟩ | ⟨g, c, rfl⟩
    · exact ⟨_, _, rfl⟩
    · exact ⟨_, _, rfl⟩
  clear hv
  go_enter Try.func38, Try.ntmps38
  go_wp2_with fail
  go_loop [5] (fun i => ∃ a : Nat, a ≤ n ∧ i = .int .i64 a) (fun i => n - (intOf i).toNat)
  case atStart => exact ⟨0, by omega, rfl⟩
  case round =>
    obtain ⟨a, ha, rfl⟩ := hrel
    by_cases hlt : a < n
    · have e0 : IntKind.i64.wrap ((a : Int) + 1) = (a : Int) + 1 := IntWalk.i64_in _ (by omega)
      go_wp2_with fail
      exact ⟨⟨a + 1, by omega, by go_num⟩, by simp [intOf]; omega⟩
    · obtain rfl : a = n := by omega
      go_wp2_with fail
      go_ret
      exact ⟨rfl, rfl⟩
theorem markBorder_2 (p n m k : Int) (v : Value) (N : Nat) (kk : Int) (w : World) (hv : Shp v N) (hn : N ≤ 1048576) :
    Calls Try.prog 13 #[.agg #[.int .i64 p, .int .i64 n, .int .i64 m, .int .i64 k, v], .int .i64 kk] w
      fun e w' => e = .returned (.int .i64 kk) ∧ Below w.heap.size w w' := by
  go_enter Try.func13, Try.ntmps13
  go_wp2_with fail
  refine (markTwigS_c v N kk hv hn _).mono ?_
  rintro e w1 ⟨rfl, rfl⟩
  go_wp2_with fail
  go_ret
  exact ⟨rfl, below1 _ _⟩
/-- The call answers this border scheme, its twigs in memory of their own, and this code. -/
def ResD (w : World) (p n m k : Int) (qs : List (List Nat)) (code : Int) (e : Ending) (w' : World) : Prop :=
  ∃ v, e = .returned (.tuple #[.agg #[.int .i64 p, .int .i64 n, .int .i64 m, .int .i64 k, v], .int .i64 code]) ∧ OwnT w' w.heap.size v qs ∧ Below w.heap.size w w'
theorem exec_alloc_border {o : Oper} {a : Act} {w : World} (ho : o.op = .alloc 33) : (execOp a.eval o).run Try.prog w = .ok (.value (.pointer (some ⟨w.heap.size, 0, none⟩))) (w.alloc (.cells #[.int .i64 0, .int .i64 0, .int .i64 0, .int .i64 0, .slice none 0 0] 33 (0, 0))) := by
  unfold execOp
  rw [ho]
  kernel_rfl
end Go.Proofs.Ytnlidegmllcdhaa
