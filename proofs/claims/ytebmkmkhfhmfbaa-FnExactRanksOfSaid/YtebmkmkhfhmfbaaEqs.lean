/-
  laws.eqForm, eqProduct, eqProductS, eqScheme: they answer whether the lists are equal; nothing that was there is written.
-/
import Derived.Test.YtebmkmkhfhmfbaaSchemes
import Derived.Maps.RangeWalk
namespace Go.Proofs.Ytebmkmkhfhmfbaa
open Go.RowKit
def EqFormRel (w : World) (f g : List Nat) (i : Value) (wr : World) : Prop :=
  ∃ k : Nat, k ≤ 9 ∧ i = .int .i64 k ∧ Below w.heap.size w wr ∧ At wr w.heap.size (.cells (u8s f) 45 (0, 0)) ∧ At wr (w.heap.size + 1) (.cells (u8s g) 45 (0, 0)) ∧ ∀ j, j < k → f[j]?.getD 0 = g[j]?.getD 0
theorem eq_of_getD {f g : List Nat} {n : Nat} (hf : f.length = n) (hg : g.length = n) (h : ∀ j, j < n → f[j]?.getD 0 = g[j]?.getD 0) : f = g := by
  apply List.ext_getElem (by omega)
  intro i h1 h2
  have := h i (by omega)
  simpa [h1, h2] using this
set_option maxHeartbeats 400000 in
theorem eqForm_c (f g : List Nat) (hf : Bytes 9 f) (hg : Bytes 9 g) (w : World) :
    Calls Try.prog 75 #[.agg (u8s f), .agg (u8s g)] w fun e w' => e = .returned (.bool (f == g)) ∧ Below w.heap.size w w' := by
  go_enter Try.func75, Try.ntmps75
  go_wp2_with fail
  go_loopw [5] (fun i wr => EqFormRel w f g i wr) (fun i _ => 9 - (intOf i).toNat)
  case atStart => exact ⟨0, by omega, rfl, below2 _ _ _, al2_0 _ _ _, al2_1 _ _ _, by omega⟩
  case round =>
    obtain ⟨k, hk, rfl, hB, h0, h1, hall⟩ := hrel
    by_cases hlt : k < 9
    · have c0 := h0.cell (i := k) (by rw [hf.len]; exact hlt)
      have c1 := h1.cell (i := k) (by rw [hg.len]; exact hlt)
      have hlt' : (k : Int) < 9 := by omega
      have Hall := Lib.hid hall
      clear hall
      by_cases heq : f[k]?.getD 0 = g[k]?.getD 0
      · have hb : ((((f[k]?.getD 0 : Nat)) : Int) != ((g[k]?.getD 0 : Nat) : Int)) = false := by simp [heq]
        have Heq := Lib.hid heq
        clear heq
        go_wp2_with fail
        go_quiet (fail)
        go_wp2_with fail
        go_roundw
        case rel =>
          refine ⟨k + 1, by omega, by go_num, below_drawn hB _, h0.drewN _, h1.drewN _, fun j hj => ?_⟩
          by_cases hjk : j = k
          · subst hjk; exact Heq.out
          · exact Hall.out j (by omega)
        case measure => simp [intOf]; omega
      · have hb : ((((f[k]?.getD 0 : Nat)) : Int) != ((g[k]?.getD 0 : Nat) : Int)) = true := by simp; omega
        have hne : (f == g) = false := by
          rw [beq_eq_false_iff_ne]
          intro he
          exact heq (by rw [he])
        have Hne := Lib.hid hne
        clear heq hne
        go_wp2_with fail
        go_quiet (fail)
        go_wp2_with fail
        go_ret
        exact ⟨by rw [Hne.out]; rfl, below_drawn hB _⟩
    · obtain rfl : k = 9 := by omega
      have Hfg := Lib.hid (eq_of_getD hf.len hg.len hall)
      clear hall
      go_wp2_with fail
      go_ret
      exact ⟨by rw [Hfg.out]; simp, hB⟩
set_option maxHeartbeats 400000 in
theorem eqProduct_c (q r : List Nat) (hq : Bytes 27 q) (hr : Bytes 27 r) (w : World) :
    Calls Try.prog 55 #[.agg (u8s q), .agg (u8s r)] w fun e w' => e = .returned (.bool (q == r)) ∧ Below w.heap.size w w' := by
  have zq : 27 ≤ q.length := by rw [hq.len]; exact Nat.le_refl _
  have zr : 27 ≤ r.length := by rw [hr.len]; exact Nat.le_refl _
  go_enter Try.func55, Try.ntmps55
  go_wp2_with (first | (refine wpList_abs2 ?_; intro W hsz hB h0 h1) | (refine wpList_load_u8s rfl 45 _ rfl w.heap.size 0 rfl _ q _ 9 h0 Try.underlying45 rfl (by kernel_rfl) (by omega) ?_) | (refine wpList_load_u8s rfl 45 _ rfl (w.heap.size + 1) 0 rfl _ r _ 9 h1 Try.underlying45 rfl (by kernel_rfl) (by omega) ?_))
  refine (eqForm_c _ _ (segm_bytes hq (by omega)) (segm_bytes hr (by omega)) _).mono ?_
  rintro e w1 ⟨rfl, b1⟩
  replace h0 := h0.after b1
  replace h1 := h1.after b1
  replace hB := below_after hB b1
  cases hx0 : (segm q 0 9 == segm r 0 9) with
  | false =>
    have Hne := Lib.hid (segms_ne hx0)
    clear hx0
    go_wp2_with fail
    go_ret
    exact ⟨by rw [Hne.out]; rfl, hB⟩
  | true =>
    have E0 := Lib.hid (eq_of_beq hx0)
    clear hx0
    go_wp2_with (first | (refine wpList_load_u8s rfl 45 _ rfl w.heap.size 9 rfl _ q _ 9 h0 Try.underlying45 rfl (by kernel_rfl) (by omega) ?_) | (refine wpList_load_u8s rfl 45 _ rfl (w.heap.size + 1) 9 rfl _ r _ 9 h1 Try.underlying45 rfl (by kernel_rfl) (by omega) ?_))
    refine (eqForm_c _ _ (segm_bytes hq (by omega)) (segm_bytes hr (by omega)) _).mono ?_
    rintro e w2 ⟨rfl, b2⟩
    replace h0 := h0.after b2
    replace h1 := h1.after b2
    replace hB := below_after hB b2
    cases hx1 : (segm q 9 9 == segm r 9 9) with
    | false =>
      have Hne := Lib.hid (segms_ne hx1)
      clear hx1
      go_wp2_with fail
      go_ret
      exact ⟨by rw [Hne.out]; rfl, hB⟩
    | true =>
      have E1 := Lib.hid (eq_of_beq hx1)
      clear hx1
      go_wp2_with (first | (refine wpList_load_u8s rfl 45 _ rfl w.heap.size 18 rfl _ q _ 9 h0 Try.underlying45 rfl (by kernel_rfl) (by omega) ?_) | (refine wpList_load_u8s rfl 45 _ rfl (w.heap.size + 1) 18 rfl _ r _ 9 h1 Try.underlying45 rfl (by kernel_rfl) (by omega) ?_))
      refine (eqForm_c _ _ (segm_bytes hq (by omega)) (segm_bytes hr (by omega)) _).mono ?_
      rintro e w3 ⟨rfl, b3⟩
      replace hB := below_after hB b3
      cases hx2 : (segm q 18 9 == segm r 18 9) with
      | false =>
        have Hne := Lib.hid (segms_ne hx2)
        clear hx2
        go_wp2_with fail
        go_ret
        exact ⟨by rw [Hne.out]; rfl, hB⟩
      | true =>
        have E2 := Lib.hid (segms_eq hq.len hr.len E0.out E1.out (eq_of_beq hx2))
        clear hx2
        go_wp2_with fail
        go_ret
        exact ⟨by rw [E2.out]; simp, hB⟩
def EqProdsRel (w : World) (qs rs : List (List Nat)) (i : Value) (wr : World) : Prop :=
  ∃ k : Nat, k ≤ qs.length ∧ i = .int .i64 k ∧ Below w.heap.size w wr ∧ qs.take k = rs.take k
set_option maxHeartbeats 400000 in
set_option maxRecDepth 100000 in
theorem eqProductS_c (A B : Option Addr) (c d : Nat) (qs rs : List (List Nat)) (w : World) (hq : Rd w A qs) (hr : Rd w B rs) (hn : qs.length ≤ 9000000000000000000) :
    Calls Try.prog 28 #[.slice A qs.length c, .slice B rs.length d] w fun e w' => e = .returned (.bool (qs == rs)) ∧ Below w.heap.size w w' := by
  by_cases hl : qs.length = rs.length
  · have hb : (((qs.length : Nat) : Int) != ((rs.length : Nat) : Int)) = false := by simp [hl]
    have Hl := Lib.hid hl
    clear hl
    go_enter Try.func28, Try.ntmps28
    go_wp2_with fail
    go_loopw [5] (fun i wr => EqProdsRel w qs rs i wr) (fun i _ => qs.length - (intOf i).toNat)
    case atStart => exact ⟨0, by omega, rfl, Below.refl _ _, rfl⟩
    case round =>
      obtain ⟨k, hk, rfl, hB, hT⟩ := hrel
      have HT := Lib.hid hT
      clear hT
      by_cases hlt : k < qs.length
      · have hlt2 : k < rs.length := by have := Hl.out; omega
        obtain ⟨b, off, hA0, hc⟩ := (hq.keep hB).at_ hlt
        obtain ⟨b', off', hB0, hc'⟩ := (hr.keep hB).at_ hlt2
        have g1 := hq.good qs[k] (List.getElem_mem hlt)
        have g2 := hr.good rs[k] (List.getElem_mem hlt2)
        have Hc := Lib.hid hc
        have Hc' := Lib.hid hc'
        subst hA0 hB0
        clear hc hc'
        go_wp2_with fail
        refine wp_region_still_tail (P := Try.prog) 8 (by kernel_rfl) (by kernel_rfl) ?_
        simp only [List.take_succ_cons, List.take_zero, List.drop_succ_cons, List.drop_zero]
        refine wpStill_of_exec rfl (exec_move _ rfl (.slice (some ⟨b, off, none⟩) qs.length c) rfl) ?_
        go_frame
        refine wpStill_of_exec rfl (exec_move _ rfl (.int .i64 k) rfl) ?_
        go_frame
        refine wpStill_of_exec rfl (exec_index_slice _ 47 _ _ rfl b off qs.length c k 27 rfl rfl Try.underlying29 (by kernel_rfl) hlt) ?_
        go_frame
        refine wpStill_of_exec rfl (exec_load_cells 47 _ rfl b (off + k * 27) rfl qs[k] _ 27 Hc.out Try.underlying47 rfl (by kernel_rfl) g1.len) ?_
        go_frame
        refine wpStill_of_exec rfl (exec_move _ rfl (.slice (some ⟨b', off', none⟩) rs.length d) rfl) ?_
        go_frame
        refine wpStill_of_exec rfl (exec_move _ rfl (.int .i64 k) rfl) ?_
        go_frame
        refine wpStill_of_exec rfl (exec_index_slice _ 47 _ _ rfl b' off' rs.length d k 27 rfl rfl Try.underlying29 (by kernel_rfl) hlt2) ?_
        go_frame
        refine wpStill_of_exec rfl (exec_load_cells 47 _ rfl b' (off' + k * 27) rfl rs[k] _ 27 Hc'.out Try.underlying47 rfl (by kernel_rfl) g2.len) ?_
        go_frame
        refine wpStill_nil ?_
        go_wp2_with fail
        refine (eqProduct_c _ _ g1 g2 _).mono ?_
        rintro e w2 ⟨rfl, b2⟩
        have hB2 := below_after (hB.drew) b2
        cases hx : (qs[k] == rs[k]) with
        | false =>
          have Hne : Hid ((qs == rs) = false) := Lib.hid (lists_ne hlt hlt2 hx)
          clear hx
          go_wp2_with fail
          go_ret
          exact ⟨by rw [Hne.out]; rfl, hB2⟩
        | true =>
          have He : Hid (qs.take (k + 1) = rs.take (k + 1)) := Lib.hid (take_step HT.out hlt hlt2 (eq_of_beq hx))
          clear hx
          go_wp2_with fail
          go_roundw
          case rel => exact ⟨k + 1, by omega, by go_num, hB2, He.out⟩
          case measure => simp [intOf]; omega
      · obtain rfl : k = qs.length := by omega
        have He : Hid (qs = rs) := Lib.hid (by have h := HT.out; have h2 := Hl.out; rw [List.take_length] at h; rw [h, h2, List.take_length])
        go_wp2_with fail
        go_ret
        exact ⟨by rw [He.out]; simp, hB⟩
  · have hb : (((qs.length : Nat) : Int) != ((rs.length : Nat) : Int)) = true := by simp; omega
    have Hne : Hid ((qs == rs) = false) := Lib.hid (by rw [beq_eq_false_iff_ne]; intro e; exact hl (by rw [e]))
    clear hl
    go_enter Try.func28, Try.ntmps28
    go_wp2_with fail
    go_ret
    exact ⟨by rw [Hne.out]; rfl, Below.refl _ _⟩
set_option maxHeartbeats 400000 in
set_option maxRecDepth 100000 in
theorem eqScheme_c (p n m k : Int) (A B : Option Addr) (c d : Nat) (qs : List (List Nat)) (w : World) (hq : Rd w A qs) (hr : Rd w B qs) (hn : qs.length ≤ 9000000000000000000) :
    Calls Try.prog 10 #[.agg #[.int .i64 p, .int .i64 n, .int .i64 m, .int .i64 k, .slice A qs.length c], .agg #[.int .i64 p, .int .i64 n, .int .i64 m, .int .i64 k, .slice B qs.length d]] w
      fun e w' => e = .returned (.bool true) ∧ Below w.heap.size w w' := by
  go_enter Try.func10, Try.ntmps10
  go_wp2_with fail
  refine (eqProductS_c A B c d qs qs _ (hq.keep (below2 _ _ _)) (hr.keep (below2 _ _ _)) hn).mono ?_
  rintro e w1 ⟨rfl, b1⟩
  have hB := below_after (below2 _ _ _) b1
  have hb : (qs == qs) = true := by simp
  go_wp2_with fail
  go_ret
  exact ⟨rfl, hB⟩
end Go.Proofs.Ytebmkmkhfhmfbaa
