/-
  impl.leftSides: at each place the left side of the equation.
-/
import Derived.Test.YtbahcbmmkbokgaaLeft1
import Derived.BigRegion
namespace Go.Proofs.Ytbahcbmmkbokgaa
open Go.RowKit
set_option maxRecDepth 100000
attribute [local irreducible] wpStill
def sidesL (p : Nat) (qs : List (List Nat)) (a b : Nat) : List Nat := (List.range 9).map fun c => sumN qs a b c % p
theorem sidesL_bytes {p : Nat} (qs : List (List Nat)) (a b : Nat) (h0 : 0 < p) (h : p ≤ 256) : Bytes 9 (sidesL p qs a b) := by
  refine ⟨by simp [sidesL], fun n hn => ?_⟩
  obtain ⟨c, _, rfl⟩ := List.mem_map.1 hn
  have := Nat.mod_lt (sumN qs a b c) h0
  omega
theorem sidesL_get {p : Nat} (qs : List (List Nat)) (a b c : Nat) (hc : c < 9) : (sidesL p qs a b)[c]?.getD 0 = sumN qs a b c % p := by simp [sidesL, hc]
/-- The first 'c' elements of one list, the rest of another. -/
def mixL (new old : List Nat) (c : Nat) : List Nat := new.take c ++ old.drop c
theorem mixL_len {new old : List Nat} {c : Nat} (hn : new.length = 9) (ho : old.length = 9) (hc : c ≤ 9) : (mixL new old c).length = 9 := by simp [mixL, hn, ho]; omega
theorem mixL_get {new old : List Nat} {c : Nat} (hn : new.length = 9) (hc : c < 9) : (mixL new old c)[c]?.getD 0 = old[c]?.getD 0 := by
  unfold mixL
  rw [List.getElem?_append_right (by simp; omega)]
  simp [hn, Nat.min_eq_left (Nat.le_of_lt hc)]
theorem mixL_set {new old : List Nat} {c : Nat} (hn : new.length = 9) (ho : old.length = 9) (hc : c < 9) : (mixL new old c).set c (new[c]?.getD 0) = mixL new old (c + 1) := by
  unfold mixL
  have hl : (new.take c).length = c := by simp [hn]; omega
  rw [List.set_append_right _ _ (by omega), hl, Nat.sub_self, List.drop_eq_getElem_cons (by omega), List.set_cons_zero, List.take_succ_eq_append_getElem (by omega), List.append_assoc]
  simp [hn, hc]
theorem mixL_all {new old : List Nat} (hn : new.length = 9) (ho : old.length = 9) : mixL new old 9 = new := by
  rw [mixL, List.take_of_length_le (by omega), List.drop_eq_nil_of_le (by omega), List.append_nil]
theorem mixL_none (new old : List Nat) : mixL new old 0 = old := by simp [mixL]
def OuterRel (w : World) (p : Nat) (qs : List (List Nat)) (a b : Nat) (i : Value) (wr : World) : Prop :=
  ∃ j : Nat, j ≤ qs.length ∧ i = .int .i64 j ∧ Below w.heap.size w wr ∧     At wr w.heap.size (.cells (u8s (List.replicate 9 0)) 59 (0, 0)) ∧ At wr (w.heap.size + 1) (.cells (u8s (sidesL p (qs.take j) a b)) 59 (0, 0))
def InnerRel (w : World) (old new : List Nat) (i : Value) (wr : World) : Prop :=
  ∃ c : Nat, c ≤ 9 ∧ i = .int .i64 c ∧ Below w.heap.size w wr ∧     At wr w.heap.size (.cells (u8s (List.replicate 9 0)) 59 (0, 0)) ∧ At wr (w.heap.size + 1) (.cells (u8s (mixL new old c)) 59 (0, 0))
set_option maxHeartbeats 1600000 in
theorem sumsAt_c (p : Nat) (A : Option Addr) (cap : Nat) (qs : List (List Nat)) (a b : Nat) (w : World) (hp : 0 < p) (hp5 : p ≤ 5) (hr : Rd w A qs) (h30 : qs.length ≤ 1000000) (ha : a < 9) (hb : b < 9) :
    Calls Try.prog 60 #[.int .i64 p, .slice A qs.length cap, .int .i64 a, .int .i64 b] w fun e w' => e = .returned (.agg (u8s (sidesL p qs a b))) ∧ Below w.heap.size w w' := by
  go_enter Try.func60, Try.ntmps60
  go_wp2_with fail
  go_loopw [17] (fun i wr => OuterRel w p qs a b i wr) (fun i _ => qs.length - (intOf i).toNat)
  case atStart => exact ⟨0, by omega, rfl, below2 _ _ _, al2_0 _ _ _, al2_1 _ _ _⟩
  case round =>
    obtain ⟨j, hj, rfl, hB, h1, h2⟩ := hrel
    by_cases hlt : j < qs.length
    · obtain ⟨bb, off, hA0, hcs⟩ := (hr.keep hB).at_ hlt
      have g1 := hr.good qs[j] (List.getElem_mem hlt)
      have Hc := Lib.hid hcs
      clear hcs
      subst hA0
      have lB := hB.size
      have l2 := h2.lt
      have ho := (sidesL_bytes (p := p) (qs.take j) a b hp (by omega)).len
      have hn9 := (sidesL_bytes (p := p) (qs.take (j + 1)) a b hp (by omega)).len
      have hmod : ∀ c, c < 9 → (sidesL p (qs.take (j + 1)) a b)[c]?.getD 0 = ((sidesL p (qs.take j) a b)[c]?.getD 0 + termN qs[j] a b c) % p := fun c hc => by
        rw [sidesL_get _ _ _ _ hc, sidesL_get _ _ _ _ hc, sumN_step hlt, Nat.mod_add_mod]
      have hob := (sidesL_bytes (p := p) (qs.take j) a b hp (by omega))
      generalize hnw : sidesL p (qs.take (j + 1)) a b = new at *
      have Hnw := Lib.hid hnw
      clear hnw
      generalize sidesL p (qs.take j) a b = old at *
      have Hmod := Lib.hid hmod
      have Ho := Lib.hid ho
      have Hn9 := Lib.hid hn9
      clear hmod ho hn9
      go_wp2_with (first | (refine wpList_load_cells rfl 61 _ rfl bb (off + j * 27) rfl qs[j] _ 27 Hc.out Try.underlying61 rfl (by kernel_rfl) g1.len ?_) | (refine wpList_abs1 ?_; intro W2 hsz2 hB2 s2; replace s2 : At W2 wr.heap.size (.cells (u8s (List.replicate 27 0)) 61 (0, 0)) := s2; replace h1 := h1.after hB2; replace h2 := h2.after hB2; replace hB := below_after hB hB2) | (refine wpList_store_u8s rfl 61 _ _ rfl rfl wr.heap.size 0 rfl _ rfl _ _ s2 27 (by kernel_rfl) g1.len (by simp) ?_; intro W3 p3; replace h1 := p3.other h1 (by omega); replace h2 := p3.other h2 (by omega); replace hB := p3.below hB (by omega); have s3 := p3.at_; rw [over_all (by rw [g1.len]; simp)] at s3))
      have x0 := s3.cell (i := a) (by rw [g1.len]; omega)
      have y0 := s3.cell (i := 9 + b) (by rw [g1.len]; omega)
      have hx := g1.lt a
      have hy := g1.lt (9 + b)
      have Ht : ∀ c, termN qs[j] a b c = qs[j][a]?.getD 0 * qs[j][9 + b]?.getD 0 * qs[j][18 + c]?.getD 0 := fun c => rfl
      generalize qs[j][a]?.getD 0 = x at *
      generalize qs[j][9 + b]?.getD 0 = y at *
      have HT := Lib.hid Ht
      clear Ht
      have e1 : IntKind.i64.wrap ((x : Int) * (y : Int)) = (x : Int) * (y : Int) := IntWalk.i64_in _ (by have := (mul3_le hx hy hx).1; rw [← Int.natCast_mul]; omega)
      go_quiet (fail)
      replace h1 := h1.drewN nq
      replace h2 := h2.drewN nq
      replace hB := below_drawn hB nq
      replace s3 := s3.drewN nq
      generalize W3.drewN nq = W4 at *
      go_wp2_with (refine wpList_load_u8s rfl 59 _ rfl wr.heap.size 18 rfl _ qs[j] _ 9 s3 Try.underlying59 rfl (by kernel_rfl) (by rw [g1.len]; omega) ?_)
      clear hsz2 hB2 s2 p3 x0 y0 lB l2
      have hseg := segm_bytes (a := 18) (n := 9) g1 (by omega)
      go_wp2_with fail
      go_loopw [34] (fun i wr => InnerRel w old new i wr) (fun i _ => 9 - (intOf i).toNat)
      case atStart => exact ⟨0, by omega, rfl, hB, h1, by rw [mixL_none]; exact h2⟩
      case round =>
        clear hB h1 h2 s3
        obtain ⟨c, hc, rfl, hB, h1, h2⟩ := hrel
        by_cases hc9 : c < 9
        · have hz := hseg.lt c
          have hzq : (segm qs[j] 18 9)[c]?.getD 0 = qs[j][18 + c]?.getD 0 := by
            unfold segm
            rw [List.getElem?_take, if_pos hc9, List.getElem?_drop]
          have hv := hob.lt c
          have v0 := h2.cell (i := c) (by rw [mixL_len Hn9.out Ho.out hc]; exact hc9)
          rw [mixL_get Hn9.out hc9] at v0
          have f0 := h2.free c
          have Hnew : Hid (new[c]?.getD 0 = (old[c]?.getD 0 + x * y * (segm qs[j] 18 9)[c]?.getD 0) % p) := Lib.hid (by rw [Hmod.out c hc9, HT.out, hzq])
          clear hzq
          go_wp2_with (refine wpList_of_exec rfl (exec_index_u8s 59 5 _ _ rfl 9 c (segm qs[j] 18 9) rfl rfl Try.underlying59 Try.underlying5 (by kernel_rfl) hseg.len hc9) ?_)
          generalize (segm qs[j] 18 9)[c]?.getD 0 = z at *
          generalize old[c]?.getD 0 = vv at *
          obtain ⟨m1, m2⟩ := mul3_le hx hy hz
          have e2 : IntKind.i64.wrap ((x : Int) * (y : Int) * (z : Int)) = (x : Int) * (y : Int) * (z : Int) := IntWalk.i64_in _ (by rw [← Int.natCast_mul, ← Int.natCast_mul]; omega)
          have e3 : IntKind.i64.wrap ((vv : Int) + (x : Int) * (y : Int) * (z : Int)) = (vv : Int) + (x : Int) * (y : Int) * (z : Int) := IntWalk.i64_in _ (by rw [← Int.natCast_mul, ← Int.natCast_mul]; omega)
          have zp : ((p : Int) == 0) = false := by simp; omega
          have hval : ((vv : Int) + (x : Int) * (y : Int) * (z : Int)).tmod (p : Int) % 256 = ((new[c]?.getD 0 : Nat) : Int) := by
            rw [Hnew.out, ← Int.natCast_mul, ← Int.natCast_mul, ← Int.natCast_add, ← Int.ofNat_tmod]
            have := Nat.mod_lt (vv + x * y * z) hp
            omega
          have Hval := Lib.hid hval
          clear hval
          go_wp2_with fail
          rw [show wrap64 ((x : Int) * (y : Int) * (z : Int)) = _ from (IntWalk.i64_left _).symm.trans e2, show wrap64 ((vv : Int) + (x : Int) * (y : Int) * (z : Int)) = _ from (IntWalk.i64_left _).symm.trans e3, Hval.out]
          have pp := Put.set (i := c) h2 (new[c]?.getD 0)
          rw [mixL_set Hn9.out Ho.out hc9] at pp
          exact ⟨⟨c + 1, by omega, by go_num, pp.below hB (by omega), pp.other h1 (by omega), pp.at_⟩, by simp [intOf]; omega⟩
        · obtain rfl : c = 9 := by omega
          rw [mixL_all Hn9.out Ho.out] at h2
          go_wp2_with fail
          exact ⟨⟨j + 1, by omega, by go_num, hB, h1, by rw [Hnw.out]; exact h2⟩, by simp [intOf]; omega⟩
    · obtain rfl : j = qs.length := by omega
      rw [List.take_length] at h2
      have hbs := (sidesL_bytes (p := p) qs a b hp (by omega)).len
      go_wp2_with (first | (refine wpList_load_all rfl 59 _ rfl (w.heap.size + 1) rfl _ _ _ h2 Try.underlying59 rfl 9 (by kernel_rfl) ((u8s_size _).trans hbs) ?_) | (refine wpList_store_u8s rfl 59 _ _ rfl rfl w.heap.size 0 rfl _ rfl _ _ h1 9 (by kernel_rfl) hbs (by simp) ?_; intro w2 p2))
      rw [over_all (by simp [hbs])] at p2
      refine bodyPost_ret (results_at rfl _ _ w.heap.size _ _ _ rfl p2.at_ Try.underlying59 rfl 9 (by kernel_rfl) ((u8s_size _).trans hbs)) rfl ?_
      exact ⟨rfl, p2.below hB (by omega)⟩
end Go.Proofs.Ytbahcbmmkbokgaa
