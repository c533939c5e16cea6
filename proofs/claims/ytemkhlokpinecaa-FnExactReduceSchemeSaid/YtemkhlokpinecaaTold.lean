/-
  spec.l03Told: a scheme with those of some products that have no factor 0.
-/
import Derived.Test.YtemkhlokpinecaaOwnSet
namespace Go.Proofs.Ytemkhlokpinecaa
open Go.RowKit
set_option maxRecDepth 100000
def nzB (q : List Nat) : Bool := !zeroB (segm q 0 9) && !zeroB (segm q 9 9) && !zeroB (segm q 18 9)
theorem filter_snoc (ps : List (List Nat)) {j : Nat} (hj : j < ps.length) : (ps.take (j + 1)).filter nzB = (ps.take j).filter nzB ++ (if nzB ps[j] then [ps[j]] else []) := by
  rw [List.take_succ_eq_append_getElem hj, List.filter_append]
  congr 1
  by_cases h : nzB ps[j] = true
  · simp [h]
  · simp [h]
theorem filter_le (ps : List (List Nat)) (j : Nat) : ((ps.take j).filter nzB).length ≤ ps.length := Nat.le_trans (List.length_filter_le _ _) (by simp; omega)
set_option maxHeartbeats 6400000 in
theorem l03Told_c (p n m k : Int) (A0 : Option Addr) (l0 cap0 : Nat) (A : Option Addr) (cap : Nat) (ps : List (List Nat)) (w : World) (hr : Rd w A ps) (hlen : ps.length ≤ 1000) :
    Calls Try.prog 87 #[.agg #[.int .i64 p, .int .i64 n, .int .i64 m, .int .i64 k, .slice A0 l0 cap0], .slice A ps.length cap] w
      fun e w' => ∃ v, e = .returned (.agg #[.int .i64 p, .int .i64 n, .int .i64 m, .int .i64 k, v]) ∧ Own w' w.heap.size v (ps.filter nzB) ∧ Below w.heap.size w w' := by
  go_enter Try.func87, Try.ntmps87
  go_wp2_with (first | (refine wpList_load_all rfl 28 _ rfl w.heap.size rfl _ _ _ (al2_0 _ _ _) Try.underlying28 rfl 5 (by kernel_rfl) rfl ?_))
  refine (l01Empty_c p n m k _ _).mono ?_
  rintro e w3 ⟨v6, rfl, ho, b3⟩
  have h1 : At w3 (w.heap.size + 1) (.cells #[.int .i64 0, .int .i64 0, .int .i64 0, .int .i64 0, .slice none 0 0] 28 (0, 0)) := At.after (al2_1 _ _ _) b3
  have hB := below_after (below2 w _ _) b3
  have l3 := b3.size
  rw [size_al2] at ho l3
  have bx := below1 w3 (.cells #[.int .i64 p, .int .i64 n, .int .i64 m, .int .i64 k, v6] 28 (0, 0))
  have hK0 : KB w (w.heap.size + 1 + 1) w3.heap.size p n m k ((ps.take 0).filter nzB) v6 (w3.alloc (.cells #[.int .i64 p, .int .i64 n, .int .i64 m, .int .i64 k, v6] 28 (0, 0))) :=
    ⟨below_after hB bx, ho.below bx, al1_0 _ _, by omega, by omega⟩
  replace h1 := h1.after bx
  have hgw : w.heap.size + 1 + 1 ≤ w3.heap.size := by omega
  clear b3 bx hB ho
  obtain ⟨A6, c6, hv6, _⟩ := hK0.own.rd (by simp)
  subst hv6
  go_wp2_with fail
  go_loopw [6] (fun i wr => ∃ (j : Nat) (v : Value), j ≤ ps.length ∧ i = .int .i64 j ∧ KB w (w.heap.size + 1 + 1) w3.heap.size p n m k ((ps.take j).filter nzB) v wr ∧ At wr (w.heap.size + 1) (.cells #[.int .i64 0, .int .i64 0, .int .i64 0, .int .i64 0, .slice none 0 0] 28 (0, 0))) (fun i _ => ps.length - (intOf i).toNat)
  case atStart => exact ⟨0, _, by omega, rfl, hK0, h1⟩
  case round =>
    clear hK0 h1
    obtain ⟨j, v, hj, rfl, hK, h1⟩ := hrel
    by_cases hlt : j < ps.length
    · have e0 : IntKind.i64.wrap ((j : Int) + 1) = (j : Int) + 1 := IntWalk.i64_in _ (by omega)
      have hj' : (j : Int) < (ps.length : Int) := by omega
      obtain ⟨b, off, rfl, _⟩ := hr.at_ hlt
      have hqj := hr.good _ (List.getElem_mem hlt)
      have Hc := Lib.hid (Rd.cells27 (hr.keep hK.below) hlt)
      have HF := Lib.hid (filter_snoc ps hlt)
      have hfl := filter_le ps j
      have q27 : 27 ≤ ps[j].length := by rw [hqj.len]; exact Nat.le_refl _
      have y0 : Bytes 9 (segm ps[j] 0 9) := segm_bytes hqj (by omega)
      have y1 : Bytes 9 (segm ps[j] 9 9) := segm_bytes hqj (by omega)
      have y2 : Bytes 9 (segm ps[j] 18 9) := segm_bytes hqj (by omega)
      have HZ0 := Lib.hid (fun w => l01Zero_c _ y0 w)
      have HZ1 := Lib.hid (fun w => l01Zero_c _ y1 w)
      have HZ2 := Lib.hid (fun w => l01Zero_c _ y2 w)
      have HN : Hid (nzB ps[j] = (!zeroB (segm ps[j] 0 9) && !zeroB (segm ps[j] 9 9) && !zeroB (segm ps[j] 18 9))) := Lib.hid rfl
      generalize (ps.take j).filter nzB = F at *
      generalize ps[j] = q at *
      have nq := hK.own.away_new
      have lg := hK.box.lt
      have l1 := h1.lt
      go_upto_region 6 with (first | (refine wpList_load_cells rfl 53 _ rfl b (off + j * 27) rfl q _ 27 Hc.out Try.underlying53 rfl (by kernel_rfl) hqj.len ?_) | (refine wpList_abs1 ?_; intro W2 hsz2 hB2 q2; replace q2 : At W2 wr.heap.size (.cells (u8s (List.replicate 27 0)) 53 (0, 0)) := q2; replace hK := hK.after hB2; replace h1 := h1.after hB2) | (refine wpList_store_u8s rfl 53 _ _ rfl rfl wr.heap.size 0 rfl q rfl _ _ q2 27 (by kernel_rfl) hqj.len (by simp) ?_; intro W3 q3))
      replace h1 := q3.other h1 (by omega)
      replace hK := hK.other q3 (by omega) nq (by omega)
      replace q2 := q3.at_
      rw [over_all (by rw [hqj.len]; simp)] at q2
      clear q3 hsz2 hB2
      obtain ⟨bq, hbq⟩ : ∃ bq, bq = wr.heap.size := ⟨_, rfl⟩
      go_wp2_with (refine wpList_load_u8s rfl 51 _ rfl wr.heap.size 0 rfl _ q _ 9 q2 Try.underlying51 rfl (by kernel_rfl) (by omega) ?_)
      refine (HZ0.out _).mono ?_
      rintro e w4 ⟨rfl, b4⟩
      replace hK := hK.after b4
      replace h1 := h1.after b4
      replace q2 := q2.after b4
      clear b4
      cases z0 : zeroB (segm q 0 9) with
      | true =>
        have HQ : Hid (nzB q = false) := Lib.hid (by rw [HN.out, z0]; rfl)
        clear z0
        go_wp2_with fail
        exact ⟨⟨j + 1, v, by omega, by go_num, by rw [HF.out, HQ.out]; simpa using hK, h1⟩, by simp [intOf]; omega⟩
      | false =>
        have Z0 := Lib.hid z0
        clear z0
        go_wp2_with (refine wpList_want_exec rfl (exec_load_u8s 51 _ rfl wr.heap.size 9 rfl _ q _ 9 q2 Try.underlying51 rfl (by kernel_rfl) (by omega)) ?_)
        refine (HZ1.out _).mono ?_
        rintro e w5 ⟨rfl, b4⟩
        replace hK := hK.after b4
        replace h1 := h1.after b4
        replace q2 := q2.after b4
        clear b4
        cases z1 : zeroB (segm q 9 9) with
        | true =>
          have HQ : Hid (nzB q = false) := Lib.hid (by rw [HN.out, Z0.out, z1]; rfl)
          clear z1
          go_wp2_with fail
          exact ⟨⟨j + 1, v, by omega, by go_num, by rw [HF.out, HQ.out]; simpa using hK, h1⟩, by simp [intOf]; omega⟩
        | false =>
          have Z1 := Lib.hid z1
          clear z1
          go_wp2_with (refine wpList_want_exec rfl (exec_load_u8s 51 _ rfl wr.heap.size 18 rfl _ q _ 9 q2 Try.underlying51 rfl (by kernel_rfl) (by omega)) ?_)
          refine (HZ2.out _).mono ?_
          rintro e w6 ⟨rfl, b4⟩
          replace hK := hK.after b4
          replace h1 := h1.after b4
          replace q2 := q2.after b4
          clear b4
          cases z2 : zeroB (segm q 18 9) with
          | true =>
            have HQ : Hid (nzB q = false) := Lib.hid (by rw [HN.out, Z0.out, Z1.out, z2]; rfl)
            clear z2
            go_wp2_with fail
            exact ⟨⟨j + 1, v, by omega, by go_num, by rw [HF.out, HQ.out]; simpa using hK, h1⟩, by simp [intOf]; omega⟩
          | false =>
            have HQ : Hid (nzB q = true) := Lib.hid (by rw [HN.out, Z0.out, Z1.out, z2]; rfl)
            clear z2
            have c4 := hK.c4
            go_wp2_with (first | (refine wpList_load_all rfl 53 _ rfl wr.heap.size rfl _ _ _ q2 Try.underlying53 rfl 27 (by kernel_rfl) ((u8s_size _).trans hqj.len) ?_) | (refine wpList_buildSlice1 rfl _ 53 _ rfl q rfl Try.underlying26 infoProd hqj.len ?_; intro W7 n7; have nq7 := hK.own.away_new; replace hK := hK.new n7; replace h1 := n7.old h1; have hRq := Rd.one n7 hqj; have lW := hK.box.lt) | (at_builtin; refine wpList_append_rd rfl _ rfl _ _ rfl v F [q] rfl hK.own (some ⟨_, 0, none⟩) 1 rfl hRq (by simp) (by simp; omega) (by omega) ?_; intro v1 W8 ho8 gr8; have hoff := hK.own.off h1 (by decide); have G := hK.grow2 gr8 ho8; have hv1 := ho8.shp.cells; replace h1 := h1.grown gr8 hoff; clear gr8 hoff) | (refine wpList_store_one rfl 26 _ _ rfl rfl w3.heap.size 4 rfl v1 rfl hv1.1 hv1.2 _ _ G.2.2 (by kernel_rfl) (by simp) ?_; intro W9 p9; replace h1 := p9.other h1 (by omega)))
            exact ⟨⟨j + 1, v1, by omega, by go_num, by rw [HF.out, HQ.out]; exact KB.put G (by omega) (by omega) (by exact p9), h1⟩, by simp [intOf]; omega⟩
    · obtain rfl : j = ps.length := by omega
      rw [List.take_length] at hK
      have hv := hK.own.shp.cells
      have n1 := hK.own.off h1 (by decide)
      go_wp2_with (first | (refine wpList_load_all rfl 28 _ rfl w3.heap.size rfl _ _ _ hK.box Try.underlying28 rfl 5 (by kernel_rfl) rfl ?_) | (refine wpList_store_all rfl 28 _ _ rfl rfl (w.heap.size + 1) rfl _ rfl _ _ h1 5 (by kernel_rfl) rfl rfl (by intro x hx; simp at hx; rcases hx with rfl | rfl | rfl | rfl | rfl <;> first | rfl | exact hv.2) ?_; intro w3 p3))
      refine bodyPost_ret (results_at rfl _ _ (w.heap.size + 1) _ _ _ rfl p3.at_ Try.underlying28 rfl 5 (by kernel_rfl) rfl) rfl ?_
      exact ⟨v, rfl, (hK.own.put p3 n1).mono (by omega), p3.below hK.below (by omega)⟩
end Go.Proofs.Ytemkhlokpinecaa
