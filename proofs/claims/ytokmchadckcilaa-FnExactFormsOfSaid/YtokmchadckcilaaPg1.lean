/-
  Lists of steps and of outputs: laws.toStep .. markOutputS. (Made by mkpg1.py.)
-/
import Derived.Test.YtokmchadckcilaaPg0
import Derived.Test.YtokmchadckcilaaSx
namespace Go.Proofs.Ytokmchadckcilaa
open Go.RowKit
set_option maxRecDepth 100000
theorem al_impl_Output {o : Oper} {a : Act} {w : World} (ho : o.op = .alloc 61) : (execOp a.eval o).run Try.prog w = .ok (.value (.pointer (some ⟨w.heap.size, 0, none⟩))) (w.alloc (.cells #[.int .i64 0, .int .i64 0] 61 (0, 0))) := by
  unfold execOp
  rw [ho]
  kernel_rfl
theorem al_impl_Program {o : Oper} {a : Act} {w : World} (ho : o.op = .alloc 36) : (execOp a.eval o).run Try.prog w = .ok (.value (.pointer (some ⟨w.heap.size, 0, none⟩))) (w.alloc (.cells #[.int .i64 0, .int .i64 0, .slice none 0 0, .slice none 0 0] 36 (0, 0))) := by
  unfold execOp
  rw [ho]
  kernel_rfl
theorem al_impl_Step {o : Oper} {a : Act} {w : World} (ho : o.op = .alloc 57) : (execOp a.eval o).run Try.prog w = .ok (.value (.pointer (some ⟨w.heap.size, 0, none⟩))) (w.alloc (.cells #[.int .i64 0, .int .i64 0, .int .i64 0] 57 (0, 0))) := by
  unfold execOp
  rw [ho]
  kernel_rfl
theorem infoStep : (Try.prog.info? 57).map (fun i => (i.zero, i.size, i.bytes)) = some (some (.agg (iar (List.replicate 3 0))), 3, 24) := by kernel_rfl
theorem onesStep (l r f : Int) : ∀ x ∈ (#[.int .i64 l, .int .i64 r, .int .i64 f] : Array Value).toList, x.oneCell' = true := by
  intro x hx
  simp at hx
  rcases hx with rfl | rfl | rfl <;> rfl
set_option maxHeartbeats 400000 in
theorem toStep_c (q : List Int) (hq : q.length = 3) (w : World) :
    Calls Try.prog 51 #[.agg (iar q)] w fun e w' => e = .returned (.agg (iar q)) ∧ Below w.heap.size w w' := by
  match q, hq with
  | [l, r, f], _ =>
    show Calls Try.prog 51 #[.agg #[.int .i64 l, .int .i64 r, .int .i64 f]] w fun e w' => e = .returned (.agg #[.int .i64 l, .int .i64 r, .int .i64 f]) ∧ Below w.heap.size w w'
    have hB := Below.refl w.heap.size w
    go_enter Try.func51, Try.ntmps51
    go_upto_region 0 with (fail)
    refine wp_region_lit ?_
    refine ls_op rfl (fun K' hK' => ?_)
    have lz1 := hB.size
    refine wp_new (some 1) rfl (exec_box 79 _ rfl (#[.int .i64 l, .int .i64 r, .int .i64 f]) rfl) (fun Wz2 nnz3 => ?_)
    have bz4 := nnz3.below (Below.refl _ _) (Nat.le_refl _)
    replace hB := below_after hB bz4
    have hz5 : At Wz2 w.heap.size (.cells #[.int .i64 l, .int .i64 r, .int .i64 f] 79 (0, 0)) := nnz3.at_
    refine hK' _ _ ?_
    clear hK' K' nnz3 bz4
    go_frame
    refine ls_op rfl (fun K' hK' => ?_)
    have lz6 := hB.size
    have lz7 := hz5.lt
    refine wp_new (some 2) rfl (al_impl_Step rfl) (fun Wz8 nnz9 => ?_)
    have bz10 := nnz9.below (Below.refl _ _) (Nat.le_refl _)
    replace hB := below_after hB bz10
    replace hz5 := hz5.after bz10
    have hz11 : At Wz8 Wz2.heap.size (.cells #[.int .i64 0, .int .i64 0, .int .i64 0] 57 (0, 0)) := nnz9.at_
    refine hK' _ _ ?_
    clear hK' K' nnz9 bz10
    go_frame
    refine wpList_nil ?_
    go_upto_region 1 with (fail)
    refine wp_region_lit ?_
    refine ls_op rfl (fun K' hK' => ?_)
    have lz12 := hB.size
    have lz13 := hz5.lt
    have lz14 := hz11.lt
    refine wp_new (some 3) rfl (al_impl_Step rfl) (fun Wz15 nnz16 => ?_)
    have bz17 := nnz16.below (Below.refl _ _) (Nat.le_refl _)
    replace hB := below_after hB bz17
    replace hz5 := hz5.after bz17
    replace hz11 := hz11.after bz17
    have hz18 : At Wz15 Wz8.heap.size (.cells #[.int .i64 0, .int .i64 0, .int .i64 0] 57 (0, 0)) := nnz16.at_
    refine hK' _ _ ?_
    clear hK' K' nnz16 bz17
    go_frame
    refine wpList_nil ?_
    go_upto_region 2 with (fail)
    refine wp_region_lit ?_
    refine ls_ex (some 4) (.pointer (some ⟨w.heap.size, 0, none⟩)) rfl rfl (exec_fieldAddr 79 _ 0 rfl _ (by kernel_rfl)) ?_
    go_frame
    refine ls_ex (some 5) (.int .i64 l) rfl rfl (exec_load_one 2 _ rfl w.heap.size 0 rfl (.int .i64 l) _ Try.underlying2 rfl (hz5.at_ 0)) ?_
    go_frame
    refine ls_ex (some 6) (.pointer (some ⟨Wz8.heap.size, 0, none⟩)) rfl rfl (exec_fieldAddr 57 _ 0 rfl _ (by kernel_rfl)) ?_
    go_frame
    refine ls_op rfl (fun K' hK' => ?_)
    refine wp_store_one 2 _ _ rfl rfl Wz8.heap.size 0 rfl (.int .i64 l) rfl rfl rfl _ _ hz18 (by kernel_rfl) (by simp) (fun Wz19 pz20 => ?_)
    replace hB := pz20.below hB (by omega)
    replace hz5 := pz20.other hz5 (by omega)
    replace hz11 := pz20.other hz11 (by omega)
    replace hz18 : At Wz19 Wz8.heap.size (.cells #[.int .i64 l, .int .i64 0, .int .i64 0] 57 (0, 0)) := pz20.at_
    refine hK' _ _ ?_
    clear hK' K' pz20
    refine wpList_nil ?_
    go_upto_region 3 with (fail)
    refine wp_region_lit ?_
    refine ls_ex (some 7) (.pointer (some ⟨w.heap.size, 1, none⟩)) rfl rfl (exec_fieldAddr 79 _ 1 rfl _ (by kernel_rfl)) ?_
    go_frame
    refine ls_ex (some 8) (.int .i64 r) rfl rfl (exec_load_one 2 _ rfl w.heap.size 1 rfl (.int .i64 r) _ Try.underlying2 rfl (hz5.at_ 1)) ?_
    go_frame
    refine ls_ex (some 9) (.pointer (some ⟨Wz8.heap.size, 1, none⟩)) rfl rfl (exec_fieldAddr 57 _ 1 rfl _ (by kernel_rfl)) ?_
    go_frame
    refine ls_op rfl (fun K' hK' => ?_)
    refine wp_store_one 2 _ _ rfl rfl Wz8.heap.size 1 rfl (.int .i64 r) rfl rfl rfl _ _ hz18 (by kernel_rfl) (by simp) (fun Wz21 pz22 => ?_)
    replace hB := pz22.below hB (by omega)
    replace hz5 := pz22.other hz5 (by omega)
    replace hz11 := pz22.other hz11 (by omega)
    replace hz18 : At Wz21 Wz8.heap.size (.cells #[.int .i64 l, .int .i64 r, .int .i64 0] 57 (0, 0)) := pz22.at_
    refine hK' _ _ ?_
    clear hK' K' pz22
    refine wpList_nil ?_
    go_upto_region 4 with (fail)
    refine wp_region_lit ?_
    refine ls_ex (some 10) (.pointer (some ⟨w.heap.size, 2, none⟩)) rfl rfl (exec_fieldAddr 79 _ 2 rfl _ (by kernel_rfl)) ?_
    go_frame
    refine ls_ex (some 11) (.int .i64 f) rfl rfl (exec_load_one 2 _ rfl w.heap.size 2 rfl (.int .i64 f) _ Try.underlying2 rfl (hz5.at_ 2)) ?_
    go_frame
    refine ls_ex (some 12) (.pointer (some ⟨Wz8.heap.size, 2, none⟩)) rfl rfl (exec_fieldAddr 57 _ 2 rfl _ (by kernel_rfl)) ?_
    go_frame
    refine ls_op rfl (fun K' hK' => ?_)
    refine wp_store_one 2 _ _ rfl rfl Wz8.heap.size 2 rfl (.int .i64 f) rfl rfl rfl _ _ hz18 (by kernel_rfl) (by simp) (fun Wz23 pz24 => ?_)
    replace hB := pz24.below hB (by omega)
    replace hz5 := pz24.other hz5 (by omega)
    replace hz11 := pz24.other hz11 (by omega)
    replace hz18 : At Wz23 Wz8.heap.size (.cells #[.int .i64 l, .int .i64 r, .int .i64 f] 57 (0, 0)) := pz24.at_
    refine hK' _ _ ?_
    clear hK' K' pz24
    refine wpList_nil ?_
    go_upto_region 5 with (fail)
    refine wp_region_lit ?_
    refine ls_ex (some 13) (.agg #[.int .i64 l, .int .i64 r, .int .i64 f]) rfl rfl (exec_load_all 57 _ rfl Wz8.heap.size rfl _ _ _ hz18 Try.underlying57 rfl 3 (by kernel_rfl) rfl) ?_
    go_frame
    refine ls_op rfl (fun K' hK' => ?_)
    refine wp_store_all 57 _ _ rfl rfl Wz2.heap.size rfl #[.int .i64 l, .int .i64 r, .int .i64 f] rfl _ _ hz11 3 (by kernel_rfl) rfl rfl (by intro x hx; simp at hx; rcases hx with rfl | rfl | rfl <;> rfl) (fun Wz25 pz26 => ?_)
    replace hB := pz26.below hB (by omega)
    replace hz5 := pz26.other hz5 (by omega)
    replace hz18 := pz26.other hz18 (by omega)
    replace hz11 : At Wz25 Wz2.heap.size (.cells #[.int .i64 l, .int .i64 r, .int .i64 f] 57 (0, 0)) := pz26.at_
    refine hK' _ _ ?_
    clear hK' K' pz26
    refine wpList_nil ?_
    go_wp2_with fail
    refine bodyPost_ret (results_at rfl _ _ Wz2.heap.size _ _ _ rfl hz11 Try.underlying57 rfl 3 (by kernel_rfl) rfl) rfl ?_
    exact ⟨rfl, hB⟩
def RowsRelStep (w : World) (g : Nat) (qs : List (List Int)) (i : Value) (wr : World) : Prop :=
  ∃ k : Nat, k ≤ qs.length ∧ i = .int .i64 k ∧ Below w.heap.size w wr ∧ At wr g (.cells (iar ((qs.take k).flatten ++ List.replicate ((qs.length - k) * 3) 0)) 57 (0, 0))
/-- The returned slice lies at the head of a new block, which holds just the rows. -/
def NewSteps (w : World) (qs : List (List Int)) (e : Ending) (w' : World) : Prop :=
  ∃ g : Nat, e = .returned (.slice (some ⟨g, 0, none⟩) qs.length qs.length) ∧ w.heap.size ≤ g ∧ At w' g (.cells (iar qs.flatten) 57 (0, 0)) ∧ Below w.heap.size w w'
set_option maxHeartbeats 800000 in
theorem toStepS_c (A : Option Addr) (c : Nat) (qs : List (List Int)) (w : World) (hr : RdK 3 w A qs) (hn : qs.length ≤ 1048576) :
    Calls Try.prog 36 #[.slice A qs.length c] w (NewSteps w qs) := by
  have hl : ∀ q ∈ qs, q.length = 3 := hr.good
  go_enter Try.func36, Try.ntmps36
  go_wp2_with (refine wpList_make_iar rfl _ _ 33 rfl 57 3 24 Try.underlying33 infoStep (by omega) qs.length rfl rfl (by omega) (by omega) ?_; intro w1 n1)
  have hB := n1.below (Below.refl w.heap.size w) (Nat.le_refl _)
  have hA := n1.at_
  go_wp2_with fail
  go_loopw [4] (fun i wr => RowsRelStep w w.heap.size qs i wr) (fun i _ => qs.length - (intOf i).toNat)
  case atStart => exact ⟨0, by omega, rfl, hB, by simpa using hA⟩
  case round =>
    obtain ⟨k, hk, rfl, hB1, hA1⟩ := hrel
    clear n1 hA
    by_cases hlt : k < qs.length
    · obtain ⟨b, off, rfl, hc⟩ := (hr.keep hB1).at_ hlt
      have hq := hr.good qs[k] (List.getElem_mem hlt)
      have Hs := Lib.hid (flatK_step hl (List.getElem?_eq_getElem hlt))
      have Hl := Lib.hid hl
      have Hc := Lib.hid hc
      have Hr := Lib.hid hr
      have Hq := Lib.hid hq
      clear hl hc hr hq
      go_wp2_with (refine wpList_load_ints rfl 79 _ rfl b (off + k * 3) rfl qs[k] _ 3 Hc.out Try.underlying79 rfl (by kernel_rfl) Hq.out ?_)
      refine (toStep_c _ Hq.out _).mono ?_
      rintro e w2 ⟨rfl, b2⟩
      have hA2 := hA1.after b2
      have hB2 := below_after hB1 b2
      have Hlen := Lib.hid (flatK_room Hl.out hlt)
      go_wp2_with (refine wpList_store_iar rfl 57 _ _ rfl rfl w.heap.size (k * 3) rfl qs[k] rfl _ _ hA2 3 (by kernel_rfl) Hq.out Hlen.out ?_; intro w3 p3)
      go_roundw
      case rel =>
        have h3 := p3.at_
        rw [Hs.out] at h3
        exact ⟨k + 1, by omega, by go_num, p3.below hB2 (Nat.le_refl _), h3⟩
      case measure => simp [intOf]; omega
    · obtain rfl : k = qs.length := by omega
      rw [flatK_end] at hA1
      go_wp2_with fail
      go_ret
      exact ⟨w.heap.size, rfl, Nat.le_refl _, hA1, hB1⟩
set_option maxHeartbeats 400000 in
theorem szStepS_e (A : Option Addr) (n c : Nat) (l : Int) (w : World) (h0 : 0 ≤ l) (hn : n ≤ 9223372036854775807) (hl : l ≤ 1048576) :
    Calls Try.prog 33 #[.slice A n c, .int .i64 l] w fun e w' => ∃ r, e = .returned (.int .i64 r) ∧ SzN n l r ∧ w = w' := by
  by_cases h : l - n < 0
  · go_enter Try.func33, Try.ntmps33
    go_wp2_with fail
    go_ret
    exact ⟨_, rfl, .inl rfl, rfl⟩
  · go_enter Try.func33, Try.ntmps33
    go_wp2_with fail
    go_ret
    exact ⟨_, rfl, .inr ⟨by omega, by omega⟩, rfl⟩
set_option maxHeartbeats 400000 in
theorem eqStep_c (q : List Int) (hq : q.length = 3) (w : World) :
    Calls Try.prog 55 #[.agg (iar q), .agg (iar q)] w fun e w' => e = .returned (.bool true) ∧ Below w.heap.size w w' := by
  match q, hq with
  | [l, r, f], _ =>
    show Calls Try.prog 55 #[.agg #[.int .i64 l, .int .i64 r, .int .i64 f], .agg #[.int .i64 l, .int .i64 r, .int .i64 f]] w fun e w' => e = .returned (.bool true) ∧ Below w.heap.size w w'
    have hl : (l != l) = false := by simp
    have hr : (r != r) = false := by simp
    have hf : (f != f) = false := by simp
    go_enter Try.func55, Try.ntmps55
    go_wp2_with fail
    go_ret
    exact ⟨rfl, below2 _ _ _⟩
set_option maxHeartbeats 1600000 in
theorem markStepS_at (g c len k : Nat) (cs : Array Value) (t : TypeId) (w : World) (h : At w g (.cells cs t (0, 0))) (hl : len * 3 ≤ cs.size) (hn : len ≤ 1048576) (hk : k ≤ 2000000000) :
    Calls Try.prog 48 #[.slice (some ⟨g, 0, none⟩) len c, .int .i64 k] w fun e w' => e = .returned (.int .i64 ((k + len * 3 : Nat) : Int)) ∧ At w' g (.cells (markCI cs k (len * 3)) t (0, 0)) ∧ w.grownBy w' (some g) := by
  go_enter Try.func48, Try.ntmps48
  go_wp2_with fail
  go_loopw [1, 5] (fun kv i wr => ∃ a : Nat, a ≤ len ∧ i = .int .i64 a ∧ kv = .int .i64 ((k + a * 3 : Nat) : Int) ∧ At wr g (.cells (markCI cs k (a * 3)) t (0, 0)) ∧ w.grownBy wr (some g)) (fun _ i _ => len - (intOf i).toNat)
  case atStart => exact ⟨0, by omega, rfl, by simp, by rw [Nat.zero_mul, markCI_zero]; exact h, grown_refl _ _⟩
  case round =>
    obtain ⟨a, ha, rfl, rfl, hA0, hG0⟩ := hrel
    by_cases hlt : a < len
    · have hx : IntKind.i64.wrap ((a : Int) + 1) = (a : Int) + 1 := IntWalk.i64_in _ (by omega)
      go_wp2_with (first | (refine wpList_store_mark rfl 2 _ _ rfl rfl g (a * 3) rfl k (.int .i64 ((k : Int) + (a : Int) * 3)) rfl (by simp [markVI]) cs _ hA0 (by omega) hG0 (by kernel_rfl) ?_; intro w1 hA1 hG1) | (refine wpList_store_mark rfl 2 _ _ rfl rfl g (a * 3 + 1) rfl k (.int .i64 ((k : Int) + (a : Int) * 3 + 1)) rfl (by simp [markVI]; try omega) cs _ hA1 (by omega) hG1 (by kernel_rfl) ?_; intro w2 hA2 hG2) | (refine wpList_store_mark rfl 2 _ _ rfl rfl g (a * 3 + 2) rfl k (.int .i64 ((k : Int) + (a : Int) * 3 + 1 + 1)) rfl (by simp [markVI]; try omega) cs _ hA2 (by omega) hG2 (by kernel_rfl) ?_; intro w3 hA3 hG3))
      exact ⟨⟨a + 1, by omega, by go_num, by go_num, by rw [show (a + 1) * 3 = a * 3 + 2 + 1 by omega]; exact hA3, hG3⟩, by simp [intOf]; omega⟩
    · obtain rfl : a = len := by omega
      go_wp2_with fail
      go_ret
      exact ⟨rfl, hA0, hG0⟩
set_option maxHeartbeats 400000 in
theorem markStepS_nil (A : Option Addr) (c k : Nat) (w : World) :
    Calls Try.prog 48 #[.slice A 0 c, .int .i64 k] w fun e w' => e = .returned (.int .i64 (k : Int)) ∧ w = w' := by
  go_enter Try.func48, Try.ntmps48
  go_wp2_with fail
  go_loop [1, 5] (fun kv i => i = .int .i64 0 ∧ kv = .int .i64 (k : Int)) (fun _ _ => 0)
  case atStart => exact ⟨rfl, rfl⟩
  case round =>
    obtain ⟨rfl, rfl⟩ := hrel
    go_wp2_with fail
    go_ret
    exact ⟨rfl, rfl⟩
theorem markStepS_c {lo : Nat} {v : Value} {qs : List (List Int)} (k : Nat) (w : World) (h : OwnK 57 3 w lo v qs) (hn : qs.length ≤ 1048576) (hk : k ≤ 2000000000) :
    Calls Try.prog 48 #[v, .int .i64 k] w fun e w' => e = .returned (.int .i64 ((k + qs.length * 3 : Nat) : Int)) ∧ w.grownBy w' v.ownBlock ∧ HeldI w' v k (qs.length * 3) := by
  rcases h.2.2 with ⟨rfl, h0⟩ | ⟨g, cap, cur, rfl, hb, hgg, hle, hcap, hsz, ht⟩
  · refine (markStepS_nil none 0 k w).mono ?_
    rintro e w' ⟨rfl, rfl⟩
    exact ⟨by rw [h0]; simp, grown_refl _ _, fun g hg => by cases hg⟩
  · have hl : qs.length * 3 ≤ cur.size := by rw [hsz]; exact Nat.mul_le_mul_right _ hle
    refine (markStepS_at g cap qs.length k cur _ w hgg hl hn hk).mono ?_
    rintro e w' ⟨rfl, hA, hG⟩
    refine ⟨rfl, hG, fun g' hg i hi => ?_⟩
    simp only [Value.ownBlock, Option.some.injEq] at hg
    subst hg
    rw [hA.at_, markCI_get hi]
theorem infoOutput : (Try.prog.info? 61).map (fun i => (i.zero, i.size, i.bytes)) = some (some (.agg (iar (List.replicate 2 0))), 2, 16) := by kernel_rfl
theorem onesOutput (v f : Int) : ∀ x ∈ (#[.int .i64 v, .int .i64 f] : Array Value).toList, x.oneCell' = true := by
  intro x hx
  simp at hx
  rcases hx with rfl | rfl <;> rfl
set_option maxHeartbeats 400000 in
theorem toOutput_c (q : List Int) (hq : q.length = 2) (w : World) :
    Calls Try.prog 52 #[.agg (iar q)] w fun e w' => e = .returned (.agg (iar q)) ∧ Below w.heap.size w w' := by
  match q, hq with
  | [v, f], _ =>
    show Calls Try.prog 52 #[.agg #[.int .i64 v, .int .i64 f]] w fun e w' => e = .returned (.agg #[.int .i64 v, .int .i64 f]) ∧ Below w.heap.size w w'
    have hB := Below.refl w.heap.size w
    go_enter Try.func52, Try.ntmps52
    go_upto_region 0 with (fail)
    refine wp_region_lit ?_
    refine ls_op rfl (fun K' hK' => ?_)
    have lz1 := hB.size
    refine wp_new (some 1) rfl (exec_box 81 _ rfl (#[.int .i64 v, .int .i64 f]) rfl) (fun Wz2 nnz3 => ?_)
    have bz4 := nnz3.below (Below.refl _ _) (Nat.le_refl _)
    replace hB := below_after hB bz4
    have hz5 : At Wz2 w.heap.size (.cells #[.int .i64 v, .int .i64 f] 81 (0, 0)) := nnz3.at_
    refine hK' _ _ ?_
    clear hK' K' nnz3 bz4
    go_frame
    refine ls_op rfl (fun K' hK' => ?_)
    have lz6 := hB.size
    have lz7 := hz5.lt
    refine wp_new (some 2) rfl (al_impl_Output rfl) (fun Wz8 nnz9 => ?_)
    have bz10 := nnz9.below (Below.refl _ _) (Nat.le_refl _)
    replace hB := below_after hB bz10
    replace hz5 := hz5.after bz10
    have hz11 : At Wz8 Wz2.heap.size (.cells #[.int .i64 0, .int .i64 0] 61 (0, 0)) := nnz9.at_
    refine hK' _ _ ?_
    clear hK' K' nnz9 bz10
    go_frame
    refine wpList_nil ?_
    go_upto_region 1 with (fail)
    refine wp_region_lit ?_
    refine ls_op rfl (fun K' hK' => ?_)
    have lz12 := hB.size
    have lz13 := hz5.lt
    have lz14 := hz11.lt
    refine wp_new (some 3) rfl (al_impl_Output rfl) (fun Wz15 nnz16 => ?_)
    have bz17 := nnz16.below (Below.refl _ _) (Nat.le_refl _)
    replace hB := below_after hB bz17
    replace hz5 := hz5.after bz17
    replace hz11 := hz11.after bz17
    have hz18 : At Wz15 Wz8.heap.size (.cells #[.int .i64 0, .int .i64 0] 61 (0, 0)) := nnz16.at_
    refine hK' _ _ ?_
    clear hK' K' nnz16 bz17
    go_frame
    refine wpList_nil ?_
    go_upto_region 2 with (fail)
    refine wp_region_lit ?_
    refine ls_ex (some 4) (.pointer (some ⟨w.heap.size, 0, none⟩)) rfl rfl (exec_fieldAddr 81 _ 0 rfl _ (by kernel_rfl)) ?_
    go_frame
    refine ls_ex (some 5) (.int .i64 v) rfl rfl (exec_load_one 2 _ rfl w.heap.size 0 rfl (.int .i64 v) _ Try.underlying2 rfl (hz5.at_ 0)) ?_
    go_frame
    refine ls_ex (some 6) (.pointer (some ⟨Wz8.heap.size, 0, none⟩)) rfl rfl (exec_fieldAddr 61 _ 0 rfl _ (by kernel_rfl)) ?_
    go_frame
    refine ls_op rfl (fun K' hK' => ?_)
    refine wp_store_one 2 _ _ rfl rfl Wz8.heap.size 0 rfl (.int .i64 v) rfl rfl rfl _ _ hz18 (by kernel_rfl) (by simp) (fun Wz19 pz20 => ?_)
    replace hB := pz20.below hB (by omega)
    replace hz5 := pz20.other hz5 (by omega)
    replace hz11 := pz20.other hz11 (by omega)
    replace hz18 : At Wz19 Wz8.heap.size (.cells #[.int .i64 v, .int .i64 0] 61 (0, 0)) := pz20.at_
    refine hK' _ _ ?_
    clear hK' K' pz20
    refine wpList_nil ?_
    go_upto_region 3 with (fail)
    refine wp_region_lit ?_
    refine ls_ex (some 7) (.pointer (some ⟨w.heap.size, 1, none⟩)) rfl rfl (exec_fieldAddr 81 _ 1 rfl _ (by kernel_rfl)) ?_
    go_frame
    refine ls_ex (some 8) (.int .i64 f) rfl rfl (exec_load_one 2 _ rfl w.heap.size 1 rfl (.int .i64 f) _ Try.underlying2 rfl (hz5.at_ 1)) ?_
    go_frame
    refine ls_ex (some 9) (.pointer (some ⟨Wz8.heap.size, 1, none⟩)) rfl rfl (exec_fieldAddr 61 _ 1 rfl _ (by kernel_rfl)) ?_
    go_frame
    refine ls_op rfl (fun K' hK' => ?_)
    refine wp_store_one 2 _ _ rfl rfl Wz8.heap.size 1 rfl (.int .i64 f) rfl rfl rfl _ _ hz18 (by kernel_rfl) (by simp) (fun Wz21 pz22 => ?_)
    replace hB := pz22.below hB (by omega)
    replace hz5 := pz22.other hz5 (by omega)
    replace hz11 := pz22.other hz11 (by omega)
    replace hz18 : At Wz21 Wz8.heap.size (.cells #[.int .i64 v, .int .i64 f] 61 (0, 0)) := pz22.at_
    refine hK' _ _ ?_
    clear hK' K' pz22
    refine wpList_nil ?_
    go_upto_region 4 with (fail)
    refine wp_region_lit ?_
    refine ls_ex (some 10) (.agg #[.int .i64 v, .int .i64 f]) rfl rfl (exec_load_all 61 _ rfl Wz8.heap.size rfl _ _ _ hz18 Try.underlying61 rfl 2 (by kernel_rfl) rfl) ?_
    go_frame
    refine ls_op rfl (fun K' hK' => ?_)
    refine wp_store_all 61 _ _ rfl rfl Wz2.heap.size rfl #[.int .i64 v, .int .i64 f] rfl _ _ hz11 2 (by kernel_rfl) rfl rfl (by intro x hx; simp at hx; rcases hx with rfl | rfl <;> rfl) (fun Wz23 pz24 => ?_)
    replace hB := pz24.below hB (by omega)
    replace hz5 := pz24.other hz5 (by omega)
    replace hz18 := pz24.other hz18 (by omega)
    replace hz11 : At Wz23 Wz2.heap.size (.cells #[.int .i64 v, .int .i64 f] 61 (0, 0)) := pz24.at_
    refine hK' _ _ ?_
    clear hK' K' pz24
    refine wpList_nil ?_
    go_wp2_with fail
    refine bodyPost_ret (results_at rfl _ _ Wz2.heap.size _ _ _ rfl hz11 Try.underlying61 rfl 2 (by kernel_rfl) rfl) rfl ?_
    exact ⟨rfl, hB⟩
def RowsRelOutput (w : World) (g : Nat) (qs : List (List Int)) (i : Value) (wr : World) : Prop :=
  ∃ k : Nat, k ≤ qs.length ∧ i = .int .i64 k ∧ Below w.heap.size w wr ∧ At wr g (.cells (iar ((qs.take k).flatten ++ List.replicate ((qs.length - k) * 2) 0)) 61 (0, 0))
/-- The returned slice lies at the head of a new block, which holds just the rows. -/
def NewOutputs (w : World) (qs : List (List Int)) (e : Ending) (w' : World) : Prop :=
  ∃ g : Nat, e = .returned (.slice (some ⟨g, 0, none⟩) qs.length qs.length) ∧ w.heap.size ≤ g ∧ At w' g (.cells (iar qs.flatten) 61 (0, 0)) ∧ Below w.heap.size w w'
set_option maxHeartbeats 800000 in
theorem toOutputS_c (A : Option Addr) (c : Nat) (qs : List (List Int)) (w : World) (hr : RdK 2 w A qs) (hn : qs.length ≤ 1048576) :
    Calls Try.prog 37 #[.slice A qs.length c] w (NewOutputs w qs) := by
  have hl : ∀ q ∈ qs, q.length = 2 := hr.good
  go_enter Try.func37, Try.ntmps37
  go_wp2_with (refine wpList_make_iar rfl _ _ 34 rfl 61 2 16 Try.underlying34 infoOutput (by omega) qs.length rfl rfl (by omega) (by omega) ?_; intro w1 n1)
  have hB := n1.below (Below.refl w.heap.size w) (Nat.le_refl _)
  have hA := n1.at_
  go_wp2_with fail
  go_loopw [4] (fun i wr => RowsRelOutput w w.heap.size qs i wr) (fun i _ => qs.length - (intOf i).toNat)
  case atStart => exact ⟨0, by omega, rfl, hB, by simpa using hA⟩
  case round =>
    obtain ⟨k, hk, rfl, hB1, hA1⟩ := hrel
    clear n1 hA
    by_cases hlt : k < qs.length
    · obtain ⟨b, off, rfl, hc⟩ := (hr.keep hB1).at_ hlt
      have hq := hr.good qs[k] (List.getElem_mem hlt)
      have Hs := Lib.hid (flatK_step hl (List.getElem?_eq_getElem hlt))
      have Hl := Lib.hid hl
      have Hc := Lib.hid hc
      have Hr := Lib.hid hr
      have Hq := Lib.hid hq
      clear hl hc hr hq
      go_wp2_with (refine wpList_load_ints rfl 81 _ rfl b (off + k * 2) rfl qs[k] _ 2 Hc.out Try.underlying81 rfl (by kernel_rfl) Hq.out ?_)
      refine (toOutput_c _ Hq.out _).mono ?_
      rintro e w2 ⟨rfl, b2⟩
      have hA2 := hA1.after b2
      have hB2 := below_after hB1 b2
      have Hlen := Lib.hid (flatK_room Hl.out hlt)
      go_wp2_with (refine wpList_store_iar rfl 61 _ _ rfl rfl w.heap.size (k * 2) rfl qs[k] rfl _ _ hA2 2 (by kernel_rfl) Hq.out Hlen.out ?_; intro w3 p3)
      go_roundw
      case rel =>
        have h3 := p3.at_
        rw [Hs.out] at h3
        exact ⟨k + 1, by omega, by go_num, p3.below hB2 (Nat.le_refl _), h3⟩
      case measure => simp [intOf]; omega
    · obtain rfl : k = qs.length := by omega
      rw [flatK_end] at hA1
      go_wp2_with fail
      go_ret
      exact ⟨w.heap.size, rfl, Nat.le_refl _, hA1, hB1⟩
set_option maxHeartbeats 400000 in
theorem szOutputS_e (A : Option Addr) (n c : Nat) (l : Int) (w : World) (h0 : 0 ≤ l) (hn : n ≤ 9223372036854775807) (hl : l ≤ 1048576) :
    Calls Try.prog 34 #[.slice A n c, .int .i64 l] w fun e w' => ∃ r, e = .returned (.int .i64 r) ∧ SzN n l r ∧ w = w' := by
  by_cases h : l - n < 0
  · go_enter Try.func34, Try.ntmps34
    go_wp2_with fail
    go_ret
    exact ⟨_, rfl, .inl rfl, rfl⟩
  · go_enter Try.func34, Try.ntmps34
    go_wp2_with fail
    go_ret
    exact ⟨_, rfl, .inr ⟨by omega, by omega⟩, rfl⟩
set_option maxHeartbeats 400000 in
theorem eqOutput_c (q : List Int) (hq : q.length = 2) (w : World) :
    Calls Try.prog 56 #[.agg (iar q), .agg (iar q)] w fun e w' => e = .returned (.bool true) ∧ Below w.heap.size w w' := by
  match q, hq with
  | [v, f], _ =>
    show Calls Try.prog 56 #[.agg #[.int .i64 v, .int .i64 f], .agg #[.int .i64 v, .int .i64 f]] w fun e w' => e = .returned (.bool true) ∧ Below w.heap.size w w'
    have hv : (v != v) = false := by simp
    have hf : (f != f) = false := by simp
    go_enter Try.func56, Try.ntmps56
    go_wp2_with fail
    go_ret
    exact ⟨rfl, below2 _ _ _⟩
set_option maxHeartbeats 1600000 in
theorem markOutputS_at (g c len k : Nat) (cs : Array Value) (t : TypeId) (w : World) (h : At w g (.cells cs t (0, 0))) (hl : len * 2 ≤ cs.size) (hn : len ≤ 1048576) (hk : k ≤ 2000000000) :
    Calls Try.prog 49 #[.slice (some ⟨g, 0, none⟩) len c, .int .i64 k] w fun e w' => e = .returned (.int .i64 ((k + len * 2 : Nat) : Int)) ∧ At w' g (.cells (markCI cs k (len * 2)) t (0, 0)) ∧ w.grownBy w' (some g) := by
  go_enter Try.func49, Try.ntmps49
  go_wp2_with fail
  go_loopw [1, 5] (fun kv i wr => ∃ a : Nat, a ≤ len ∧ i = .int .i64 a ∧ kv = .int .i64 ((k + a * 2 : Nat) : Int) ∧ At wr g (.cells (markCI cs k (a * 2)) t (0, 0)) ∧ w.grownBy wr (some g)) (fun _ i _ => len - (intOf i).toNat)
  case atStart => exact ⟨0, by omega, rfl, by simp, by rw [Nat.zero_mul, markCI_zero]; exact h, grown_refl _ _⟩
  case round =>
    obtain ⟨a, ha, rfl, rfl, hA0, hG0⟩ := hrel
    by_cases hlt : a < len
    · have hx : IntKind.i64.wrap ((a : Int) + 1) = (a : Int) + 1 := IntWalk.i64_in _ (by omega)
      go_wp2_with (first | (refine wpList_store_mark rfl 2 _ _ rfl rfl g (a * 2) rfl k (.int .i64 ((k : Int) + (a : Int) * 2)) rfl (by simp [markVI]) cs _ hA0 (by omega) hG0 (by kernel_rfl) ?_; intro w1 hA1 hG1) | (refine wpList_store_mark rfl 2 _ _ rfl rfl g (a * 2 + 1) rfl k (.int .i64 ((k : Int) + (a : Int) * 2 + 1)) rfl (by simp [markVI]; try omega) cs _ hA1 (by omega) hG1 (by kernel_rfl) ?_; intro w2 hA2 hG2))
      exact ⟨⟨a + 1, by omega, by go_num, by go_num, by rw [show (a + 1) * 2 = a * 2 + 1 + 1 by omega]; exact hA2, hG2⟩, by simp [intOf]; omega⟩
    · obtain rfl : a = len := by omega
      go_wp2_with fail
      go_ret
      exact ⟨rfl, hA0, hG0⟩
set_option maxHeartbeats 400000 in
theorem markOutputS_nil (A : Option Addr) (c k : Nat) (w : World) :
    Calls Try.prog 49 #[.slice A 0 c, .int .i64 k] w fun e w' => e = .returned (.int .i64 (k : Int)) ∧ w = w' := by
  go_enter Try.func49, Try.ntmps49
  go_wp2_with fail
  go_loop [1, 5] (fun kv i => i = .int .i64 0 ∧ kv = .int .i64 (k : Int)) (fun _ _ => 0)
  case atStart => exact ⟨rfl, rfl⟩
  case round =>
    obtain ⟨rfl, rfl⟩ := hrel
    go_wp2_with fail
    go_ret
    exact ⟨rfl, rfl⟩
theorem markOutputS_c {lo : Nat} {v : Value} {qs : List (List Int)} (k : Nat) (w : World) (h : OwnK 61 2 w lo v qs) (hn : qs.length ≤ 1048576) (hk : k ≤ 2000000000) :
    Calls Try.prog 49 #[v, .int .i64 k] w fun e w' => e = .returned (.int .i64 ((k + qs.length * 2 : Nat) : Int)) ∧ w.grownBy w' v.ownBlock ∧ HeldI w' v k (qs.length * 2) := by
  rcases h.2.2 with ⟨rfl, h0⟩ | ⟨g, cap, cur, rfl, hb, hgg, hle, hcap, hsz, ht⟩
  · refine (markOutputS_nil none 0 k w).mono ?_
    rintro e w' ⟨rfl, rfl⟩
    exact ⟨by rw [h0]; simp, grown_refl _ _, fun g hg => by cases hg⟩
  · have hl : qs.length * 2 ≤ cur.size := by rw [hsz]; exact Nat.mul_le_mul_right _ hle
    refine (markOutputS_at g cap qs.length k cur _ w hgg hl hn hk).mono ?_
    rintro e w' ⟨rfl, hA, hG⟩
    refine ⟨rfl, hG, fun g' hg i hi => ?_⟩
    simp only [Value.ownBlock, Option.some.injEq] at hg
    subst hg
    rw [hA.at_, markCI_get hi]
/-- The returned program has new steps and new outputs. -/
def NewProg (w : World) (p n : Int) (ss os : List (List Int)) (e : Ending) (w' : World) : Prop :=
  ∃ g1 g2 : Nat, e = .returned (.agg #[.int .i64 p, .int .i64 n, .slice (some ⟨g1, 0, none⟩) ss.length ss.length, .slice (some ⟨g2, 0, none⟩) os.length os.length]) ∧ w.heap.size ≤ g1 ∧ g1 < g2 ∧ At w' g1 (.cells (iar ss.flatten) 57 (0, 0)) ∧ At w' g2 (.cells (iar os.flatten) 61 (0, 0)) ∧ Below w.heap.size w w'
set_option maxHeartbeats 4000000 in
theorem eqStepS_c (A B : Option Addr) (c d : Nat) (qs : List (List Int)) (w : World) (ha : RdK 3 w A qs) (hb : RdK 3 w B qs) (hn : qs.length ≤ 9000000000000000000) :
    Calls Try.prog 43 #[.slice A qs.length c, .slice B qs.length d] w (fun e w' => e = .returned (.bool true) ∧ Below w.heap.size w w') := by
  have hB := Below.refl w.heap.size w
  skip
  go_enter Try.func43, Try.ntmps43
  go_upto_region 0 with (fail)
  refine wp_region_lit ?_
  refine ls_ex (some 4) (.bool false) rfl rfl (exec_assign _ rfl (.bool false) rfl) ?_
  go_frame
  refine wpList_nil ?_
  go_upto_region 1 with (fail)
  refine wp_region_lit ?_
  refine ls_ex (some 6) (.slice A qs.length c) rfl rfl (exec_move _ rfl (.slice A qs.length c) rfl) ?_
  go_frame
  refine ls_ex (some 7) (.int .i64 qs.length) rfl rfl (exec_len _ 33 57 rfl A qs.length c rfl Try.underlying33) ?_
  go_frame
  refine ls_ex (some 8) (.slice B qs.length d) rfl rfl (exec_move _ rfl (.slice B qs.length d) rfl) ?_
  go_frame
  refine ls_ex (some 9) (.int .i64 qs.length) rfl rfl (exec_len _ 33 57 rfl B qs.length d rfl Try.underlying33) ?_
  go_frame
  refine ls_ex (some 10) (.bool false) rfl rfl (exec_neq _ _ _ _ rfl qs.length qs.length rfl rfl false (by simp)) ?_
  go_frame
  refine wpList_nil ?_
  go_upto_region 3 with (fail)
  refine wp_region_lit ?_
  refine ls_ex (some 5) (.int .i64 0) rfl rfl (exec_assign _ rfl (.int .i64 0) rfl) ?_
  go_frame
  refine wpList_nil ?_
  go_wp2_with fail
  go_loopw [5] (fun s5 wr => ∃ k : Nat, k ≤ qs.length ∧ s5 = .int .i64 k ∧ Below w.heap.size w wr) (fun s5 _ => qs.length - (intOf s5).toNat)
  case atStart => exact ⟨0, by omega, rfl, hB⟩
  case round =>
    clear hB
    obtain ⟨k, hk, rfl, hB⟩ := hrel
    by_cases hlt : k < qs.length
    · obtain ⟨b, off, rfl, hc⟩ := (ha.keep hB).at_ hlt
      obtain ⟨b2, off2, rfl, hc2⟩ := (hb.keep hB).at_ hlt
      clear hc hc2
      go_upto_region 4 with (fail)
      refine wp_region_lit ?_
      refine ls_ex (some 11) (.int .i64 k) rfl rfl (exec_move _ rfl (.int .i64 k) rfl) ?_
      go_frame
      refine ls_ex (some 12) (.slice (some ⟨b, off, none⟩) qs.length c) rfl rfl (exec_move _ rfl (.slice (some ⟨b, off, none⟩) qs.length c) rfl) ?_
      go_frame
      refine ls_ex (some 13) (.int .i64 qs.length) rfl rfl (exec_len _ 33 57 rfl ((some ⟨b, off, none⟩)) qs.length c rfl Try.underlying33) ?_
      go_frame
      refine ls_ex (some 14) (.bool true) rfl rfl (exec_lss _ _ _ _ rfl k qs.length rfl rfl true (decide_eq_true (by omega))) ?_
      go_frame
      refine wpList_nil ?_
      go_upto_region 6 with (fail)
      refine wp_region_y (zs := []) (S := fun w' => Below w.heap.size w w') (S2 := fun w' => True) (by kernel_rfl) ?_
      change wpAnyY _ _ _ _ _ _ _ _ _ _ (World.drew _)
      generalize hwdz1 : World.drew _ = wdz1
      replace hB : Below w.heap.size w wdz1 := by rw [← hwdz1]; exact hB.drew
      clear hwdz1
      refine y_yield 0 (some 17) (.slice (some ⟨b, off, none⟩) qs.length c) rfl (by kernel_rfl) (by kernel_rfl) (by kernel_rfl) (fun _ _ _ h => h) rfl rfl hB (fun w' h' => exec_move _ rfl (.slice (some ⟨b, off, none⟩) qs.length c) rfl) ?_
      go_frame
      refine y_yield 1 (some 18) (.int .i64 k) rfl (by kernel_rfl) (by kernel_rfl) (by kernel_rfl) (fun _ _ _ h => h) rfl rfl hB (fun w' h' => exec_move _ rfl (.int .i64 k) rfl) ?_
      go_frame
      refine y_yield 2 (some 19) (.pointer (some ⟨b, off + k * 3, none⟩)) rfl (by kernel_rfl) (by kernel_rfl) (by kernel_rfl) (fun _ _ _ h => h) rfl rfl hB (fun w' h' => exec_index_slice _ 57 _ _ rfl b off qs.length c k 3 rfl rfl Try.underlying33 (by kernel_rfl) (by omega)) ?_
      go_frame
      refine y_yield 3 (some 20) (.agg (iar qs[k])) rfl (by kernel_rfl) (by kernel_rfl) (by kernel_rfl) (fun _ _ _ h => h) rfl rfl hB (fun w' h' => exec_load_ints 57 _ rfl b (off + k * 3) rfl (qs[k]) _ 3 ((ha.keep h').cells hlt) Try.underlying57 rfl (by kernel_rfl) (ha.good _ (List.getElem_mem hlt))) ?_
      go_frame
      refine y_yield 4 (some 21) (.slice (some ⟨b2, off2, none⟩) qs.length d) rfl (by kernel_rfl) (by kernel_rfl) (by kernel_rfl) (fun _ _ _ h => h) rfl rfl hB (fun w' h' => exec_move _ rfl (.slice (some ⟨b2, off2, none⟩) qs.length d) rfl) ?_
      go_frame
      refine y_yield 5 (some 22) (.int .i64 k) rfl (by kernel_rfl) (by kernel_rfl) (by kernel_rfl) (fun _ _ _ h => h) rfl rfl hB (fun w' h' => exec_move _ rfl (.int .i64 k) rfl) ?_
      go_frame
      refine y_yield 6 (some 23) (.pointer (some ⟨b2, off2 + k * 3, none⟩)) rfl (by kernel_rfl) (by kernel_rfl) (by kernel_rfl) (fun _ _ _ h => h) rfl rfl hB (fun w' h' => exec_index_slice _ 57 _ _ rfl b2 off2 qs.length d k 3 rfl rfl Try.underlying33 (by kernel_rfl) (by omega)) ?_
      go_frame
      refine y_yield 7 (some 24) (.agg (iar qs[k])) rfl (by kernel_rfl) (by kernel_rfl) (by kernel_rfl) (fun _ _ _ h => h) rfl rfl hB (fun w' h' => exec_load_ints 57 _ rfl b2 (off2 + k * 3) rfl (qs[k]) _ 3 ((hb.keep h').cells hlt) Try.underlying57 rfl (by kernel_rfl) (hb.good _ (List.getElem_mem hlt))) ?_
      go_frame
      refine y_oper 8 (by kernel_rfl) rfl rfl (fun K' hK' => ?_)
      have lz4 := hB.size
      refine wp_call2 (some 25) rfl 55 _ _ _ rfl (fun args w => by kernel_rfl) _ _ rfl rfl _ (eqStep_c qs[k] (ha.good _ (List.getElem_mem hlt)) _) (fun e Wz2 h => ?_)
      obtain ⟨rfl, bz3⟩ := h
      replace hB := below_after hB bz3
      clear bz3
      refine ⟨_, rfl, ?_⟩
      refine hK' _ _ hB (fun _ => trivial) ?_
      clear hK' K'
      go_frame
      refine y_yield 9 (some 26) (.bool false) rfl (by kernel_rfl) (by kernel_rfl) (by kernel_rfl) (fun _ _ _ h => h) rfl rfl hB (fun w' h' => exec_not _ _ rfl true rfl) ?_
      go_frame
      refine y_done (by kernel_rfl) ?_ _
      go_upto_region 5 with (fail)
      refine wp_region_lit ?_
      refine ls_ex (some 15) (.int .i64 k) rfl rfl (exec_move _ rfl (.int .i64 k) rfl) ?_
      go_frame
      refine ls_ex (some 16) (.int .i64 (k + 1)) rfl rfl (exec_add _ _ _ _ rfl k 1 (k + 1) rfl rfl (IntWalk.i64_in _ (by omega))) ?_
      go_frame
      refine ls_ex (some 5) (.int .i64 (k + 1)) rfl rfl (exec_assign _ rfl (.int .i64 (k + 1)) rfl) ?_
      go_frame
      refine wpList_nil ?_
      go_wp2_with fail
      go_roundw
      case rel => exact ⟨k + 1, by omega, by go_num, hB⟩
      case measure => simp [intOf]; omega
    · go_upto_region 4 with (fail)
      refine wp_region_lit ?_
      refine ls_ex (some 11) (.int .i64 k) rfl rfl (exec_move _ rfl (.int .i64 k) rfl) ?_
      go_frame
      refine ls_ex (some 12) (.slice A qs.length c) rfl rfl (exec_move _ rfl (.slice A qs.length c) rfl) ?_
      go_frame
      refine ls_ex (some 13) (.int .i64 qs.length) rfl rfl (exec_len _ 33 57 rfl A qs.length c rfl Try.underlying33) ?_
      go_frame
      refine ls_ex (some 14) (.bool false) rfl rfl (exec_lss _ _ _ _ rfl k qs.length rfl rfl false (decide_eq_false (by omega))) ?_
      go_frame
      refine wpList_nil ?_
      go_upto_region 8 with (fail)
      refine wp_region_lit ?_
      refine ls_ex (some 4) (.bool true) rfl rfl (exec_assign _ rfl (.bool true) rfl) ?_
      go_frame
      refine wpList_nil ?_
      go_wp2_with fail
      go_ret
      exact ⟨rfl, hB⟩
set_option maxHeartbeats 4000000 in
theorem eqOutputS_c (A B : Option Addr) (c d : Nat) (qs : List (List Int)) (w : World) (ha : RdK 2 w A qs) (hb : RdK 2 w B qs) (hn : qs.length ≤ 9000000000000000000) :
    Calls Try.prog 44 #[.slice A qs.length c, .slice B qs.length d] w (fun e w' => e = .returned (.bool true) ∧ Below w.heap.size w w') := by
  have hB := Below.refl w.heap.size w
  skip
  go_enter Try.func44, Try.ntmps44
  go_upto_region 0 with (fail)
  refine wp_region_lit ?_
  refine ls_ex (some 4) (.bool false) rfl rfl (exec_assign _ rfl (.bool false) rfl) ?_
  go_frame
  refine wpList_nil ?_
  go_upto_region 1 with (fail)
  refine wp_region_lit ?_
  refine ls_ex (some 6) (.slice A qs.length c) rfl rfl (exec_move _ rfl (.slice A qs.length c) rfl) ?_
  go_frame
  refine ls_ex (some 7) (.int .i64 qs.length) rfl rfl (exec_len _ 34 61 rfl A qs.length c rfl Try.underlying34) ?_
  go_frame
  refine ls_ex (some 8) (.slice B qs.length d) rfl rfl (exec_move _ rfl (.slice B qs.length d) rfl) ?_
  go_frame
  refine ls_ex (some 9) (.int .i64 qs.length) rfl rfl (exec_len _ 34 61 rfl B qs.length d rfl Try.underlying34) ?_
  go_frame
  refine ls_ex (some 10) (.bool false) rfl rfl (exec_neq _ _ _ _ rfl qs.length qs.length rfl rfl false (by simp)) ?_
  go_frame
  refine wpList_nil ?_
  go_upto_region 3 with (fail)
  refine wp_region_lit ?_
  refine ls_ex (some 5) (.int .i64 0) rfl rfl (exec_assign _ rfl (.int .i64 0) rfl) ?_
  go_frame
  refine wpList_nil ?_
  go_wp2_with fail
  go_loopw [5] (fun s5 wr => ∃ k : Nat, k ≤ qs.length ∧ s5 = .int .i64 k ∧ Below w.heap.size w wr) (fun s5 _ => qs.length - (intOf s5).toNat)
  case atStart => exact ⟨0, by omega, rfl, hB⟩
  case round =>
    clear hB
    obtain ⟨k, hk, rfl, hB⟩ := hrel
    by_cases hlt : k < qs.length
    · obtain ⟨b, off, rfl, hc⟩ := (ha.keep hB).at_ hlt
      obtain ⟨b2, off2, rfl, hc2⟩ := (hb.keep hB).at_ hlt
      clear hc hc2
      go_upto_region 4 with (fail)
      refine wp_region_lit ?_
      refine ls_ex (some 11) (.int .i64 k) rfl rfl (exec_move _ rfl (.int .i64 k) rfl) ?_
      go_frame
      refine ls_ex (some 12) (.slice (some ⟨b, off, none⟩) qs.length c) rfl rfl (exec_move _ rfl (.slice (some ⟨b, off, none⟩) qs.length c) rfl) ?_
      go_frame
      refine ls_ex (some 13) (.int .i64 qs.length) rfl rfl (exec_len _ 34 61 rfl ((some ⟨b, off, none⟩)) qs.length c rfl Try.underlying34) ?_
      go_frame
      refine ls_ex (some 14) (.bool true) rfl rfl (exec_lss _ _ _ _ rfl k qs.length rfl rfl true (decide_eq_true (by omega))) ?_
      go_frame
      refine wpList_nil ?_
      go_upto_region 6 with (fail)
      refine wp_region_y (zs := []) (S := fun w' => Below w.heap.size w w') (S2 := fun w' => True) (by kernel_rfl) ?_
      change wpAnyY _ _ _ _ _ _ _ _ _ _ (World.drew _)
      generalize hwdz1 : World.drew _ = wdz1
      replace hB : Below w.heap.size w wdz1 := by rw [← hwdz1]; exact hB.drew
      clear hwdz1
      refine y_yield 0 (some 17) (.slice (some ⟨b, off, none⟩) qs.length c) rfl (by kernel_rfl) (by kernel_rfl) (by kernel_rfl) (fun _ _ _ h => h) rfl rfl hB (fun w' h' => exec_move _ rfl (.slice (some ⟨b, off, none⟩) qs.length c) rfl) ?_
      go_frame
      refine y_yield 1 (some 18) (.int .i64 k) rfl (by kernel_rfl) (by kernel_rfl) (by kernel_rfl) (fun _ _ _ h => h) rfl rfl hB (fun w' h' => exec_move _ rfl (.int .i64 k) rfl) ?_
      go_frame
      refine y_yield 2 (some 19) (.pointer (some ⟨b, off + k * 2, none⟩)) rfl (by kernel_rfl) (by kernel_rfl) (by kernel_rfl) (fun _ _ _ h => h) rfl rfl hB (fun w' h' => exec_index_slice _ 61 _ _ rfl b off qs.length c k 2 rfl rfl Try.underlying34 (by kernel_rfl) (by omega)) ?_
      go_frame
      refine y_yield 3 (some 20) (.agg (iar qs[k])) rfl (by kernel_rfl) (by kernel_rfl) (by kernel_rfl) (fun _ _ _ h => h) rfl rfl hB (fun w' h' => exec_load_ints 61 _ rfl b (off + k * 2) rfl (qs[k]) _ 2 ((ha.keep h').cells hlt) Try.underlying61 rfl (by kernel_rfl) (ha.good _ (List.getElem_mem hlt))) ?_
      go_frame
      refine y_yield 4 (some 21) (.slice (some ⟨b2, off2, none⟩) qs.length d) rfl (by kernel_rfl) (by kernel_rfl) (by kernel_rfl) (fun _ _ _ h => h) rfl rfl hB (fun w' h' => exec_move _ rfl (.slice (some ⟨b2, off2, none⟩) qs.length d) rfl) ?_
      go_frame
      refine y_yield 5 (some 22) (.int .i64 k) rfl (by kernel_rfl) (by kernel_rfl) (by kernel_rfl) (fun _ _ _ h => h) rfl rfl hB (fun w' h' => exec_move _ rfl (.int .i64 k) rfl) ?_
      go_frame
      refine y_yield 6 (some 23) (.pointer (some ⟨b2, off2 + k * 2, none⟩)) rfl (by kernel_rfl) (by kernel_rfl) (by kernel_rfl) (fun _ _ _ h => h) rfl rfl hB (fun w' h' => exec_index_slice _ 61 _ _ rfl b2 off2 qs.length d k 2 rfl rfl Try.underlying34 (by kernel_rfl) (by omega)) ?_
      go_frame
      refine y_yield 7 (some 24) (.agg (iar qs[k])) rfl (by kernel_rfl) (by kernel_rfl) (by kernel_rfl) (fun _ _ _ h => h) rfl rfl hB (fun w' h' => exec_load_ints 61 _ rfl b2 (off2 + k * 2) rfl (qs[k]) _ 2 ((hb.keep h').cells hlt) Try.underlying61 rfl (by kernel_rfl) (hb.good _ (List.getElem_mem hlt))) ?_
      go_frame
      refine y_oper 8 (by kernel_rfl) rfl rfl (fun K' hK' => ?_)
      have lz4 := hB.size
      refine wp_call2 (some 25) rfl 56 _ _ _ rfl (fun args w => by kernel_rfl) _ _ rfl rfl _ (eqOutput_c qs[k] (ha.good _ (List.getElem_mem hlt)) _) (fun e Wz2 h => ?_)
      obtain ⟨rfl, bz3⟩ := h
      replace hB := below_after hB bz3
      clear bz3
      refine ⟨_, rfl, ?_⟩
      refine hK' _ _ hB (fun _ => trivial) ?_
      clear hK' K'
      go_frame
      refine y_yield 9 (some 26) (.bool false) rfl (by kernel_rfl) (by kernel_rfl) (by kernel_rfl) (fun _ _ _ h => h) rfl rfl hB (fun w' h' => exec_not _ _ rfl true rfl) ?_
      go_frame
      refine y_done (by kernel_rfl) ?_ _
      go_upto_region 5 with (fail)
      refine wp_region_lit ?_
      refine ls_ex (some 15) (.int .i64 k) rfl rfl (exec_move _ rfl (.int .i64 k) rfl) ?_
      go_frame
      refine ls_ex (some 16) (.int .i64 (k + 1)) rfl rfl (exec_add _ _ _ _ rfl k 1 (k + 1) rfl rfl (IntWalk.i64_in _ (by omega))) ?_
      go_frame
      refine ls_ex (some 5) (.int .i64 (k + 1)) rfl rfl (exec_assign _ rfl (.int .i64 (k + 1)) rfl) ?_
      go_frame
      refine wpList_nil ?_
      go_wp2_with fail
      go_roundw
      case rel => exact ⟨k + 1, by omega, by go_num, hB⟩
      case measure => simp [intOf]; omega
    · go_upto_region 4 with (fail)
      refine wp_region_lit ?_
      refine ls_ex (some 11) (.int .i64 k) rfl rfl (exec_move _ rfl (.int .i64 k) rfl) ?_
      go_frame
      refine ls_ex (some 12) (.slice A qs.length c) rfl rfl (exec_move _ rfl (.slice A qs.length c) rfl) ?_
      go_frame
      refine ls_ex (some 13) (.int .i64 qs.length) rfl rfl (exec_len _ 34 61 rfl A qs.length c rfl Try.underlying34) ?_
      go_frame
      refine ls_ex (some 14) (.bool false) rfl rfl (exec_lss _ _ _ _ rfl k qs.length rfl rfl false (decide_eq_false (by omega))) ?_
      go_frame
      refine wpList_nil ?_
      go_upto_region 8 with (fail)
      refine wp_region_lit ?_
      refine ls_ex (some 4) (.bool true) rfl rfl (exec_assign _ rfl (.bool true) rfl) ?_
      go_frame
      refine wpList_nil ?_
      go_wp2_with fail
      go_ret
      exact ⟨rfl, hB⟩
set_option maxHeartbeats 4000000 in
theorem toProgram_c (p n : Int) (As Ao : Option Addr) (cs co : Nat) (ss os : List (List Int)) (w : World) (hs : RdK 3 w As ss) (ho : RdK 2 w Ao os) (hns : ss.length ≤ 1048576) (hno : os.length ≤ 1048576) :
    Calls Try.prog 14 #[.agg #[.int .i64 p, .int .i64 n, .slice As ss.length cs, .slice Ao os.length co]] w (NewProg w p n ss os) := by
  have hB := Below.refl w.heap.size w
  skip
  go_enter Try.func14, Try.ntmps14
  go_upto_region 0 with (fail)
  refine wp_region_lit ?_
  refine ls_op rfl (fun K' hK' => ?_)
  have lz1 := hB.size
  refine wp_new (some 1) rfl (exec_box 30 _ rfl (#[.int .i64 p, .int .i64 n, .slice As ss.length cs, .slice Ao os.length co]) rfl) (fun Wz2 nnz3 => ?_)
  have bz4 := nnz3.below (Below.refl _ _) (Nat.le_refl _)
  replace hB := below_after hB bz4
  have hz5 : At Wz2 w.heap.size (.cells #[.int .i64 p, .int .i64 n, .slice As ss.length cs, .slice Ao os.length co] 30 (0, 0)) := nnz3.at_
  refine hK' _ _ ?_
  clear hK' K' nnz3 bz4
  go_frame
  refine ls_op rfl (fun K' hK' => ?_)
  have lz6 := hB.size
  have lz7 := hz5.lt
  refine wp_new (some 2) rfl (al_impl_Program rfl) (fun Wz8 nnz9 => ?_)
  have bz10 := nnz9.below (Below.refl _ _) (Nat.le_refl _)
  replace hB := below_after hB bz10
  replace hz5 := hz5.after bz10
  have hz11 : At Wz8 Wz2.heap.size (.cells #[.int .i64 0, .int .i64 0, .slice none 0 0, .slice none 0 0] 36 (0, 0)) := nnz9.at_
  refine hK' _ _ ?_
  clear hK' K' nnz9 bz10
  go_frame
  refine wpList_nil ?_
  go_upto_region 1 with (fail)
  refine wp_region_lit ?_
  refine ls_op rfl (fun K' hK' => ?_)
  have lz12 := hB.size
  have lz13 := hz5.lt
  have lz14 := hz11.lt
  refine wp_new (some 3) rfl (al_impl_Program rfl) (fun Wz15 nnz16 => ?_)
  have bz17 := nnz16.below (Below.refl _ _) (Nat.le_refl _)
  replace hB := below_after hB bz17
  replace hz5 := hz5.after bz17
  replace hz11 := hz11.after bz17
  have hz18 : At Wz15 Wz8.heap.size (.cells #[.int .i64 0, .int .i64 0, .slice none 0 0, .slice none 0 0] 36 (0, 0)) := nnz16.at_
  refine hK' _ _ ?_
  clear hK' K' nnz16 bz17
  go_frame
  refine wpList_nil ?_
  go_upto_region 2 with (fail)
  refine wp_region_lit ?_
  refine ls_ex (some 4) (.pointer (some ⟨w.heap.size, 0, none⟩)) rfl rfl (exec_fieldAddr 30 _ 0 rfl _ (by kernel_rfl)) ?_
  go_frame
  refine ls_ex (some 5) (.int .i64 p) rfl rfl (exec_load_one 2 _ rfl w.heap.size 0 rfl (.int .i64 p) _ Try.underlying2 rfl (hz5.at_ 0)) ?_
  go_frame
  refine ls_ex (some 6) (.pointer (some ⟨Wz8.heap.size, 0, none⟩)) rfl rfl (exec_fieldAddr 36 _ 0 rfl _ (by kernel_rfl)) ?_
  go_frame
  refine ls_op rfl (fun K' hK' => ?_)
  refine wp_store_one 2 _ _ rfl rfl Wz8.heap.size 0 rfl (.int .i64 p) rfl rfl rfl _ _ hz18 (by kernel_rfl) (by simp) (fun Wz19 pz20 => ?_)
  replace hB := pz20.below hB (by omega)
  replace hz5 := pz20.other hz5 (by omega)
  replace hz11 := pz20.other hz11 (by omega)
  replace hz18 : At Wz19 Wz8.heap.size (.cells #[.int .i64 p, .int .i64 0, .slice none 0 0, .slice none 0 0] 36 (0, 0)) := pz20.at_
  refine hK' _ _ ?_
  clear hK' K' pz20
  refine wpList_nil ?_
  go_upto_region 3 with (fail)
  refine wp_region_lit ?_
  refine ls_ex (some 7) (.pointer (some ⟨w.heap.size, 1, none⟩)) rfl rfl (exec_fieldAddr 30 _ 1 rfl _ (by kernel_rfl)) ?_
  go_frame
  refine ls_ex (some 8) (.int .i64 n) rfl rfl (exec_load_one 2 _ rfl w.heap.size 1 rfl (.int .i64 n) _ Try.underlying2 rfl (hz5.at_ 1)) ?_
  go_frame
  refine ls_ex (some 9) (.pointer (some ⟨Wz8.heap.size, 1, none⟩)) rfl rfl (exec_fieldAddr 36 _ 1 rfl _ (by kernel_rfl)) ?_
  go_frame
  refine ls_op rfl (fun K' hK' => ?_)
  refine wp_store_one 2 _ _ rfl rfl Wz8.heap.size 1 rfl (.int .i64 n) rfl rfl rfl _ _ hz18 (by kernel_rfl) (by simp) (fun Wz21 pz22 => ?_)
  replace hB := pz22.below hB (by omega)
  replace hz5 := pz22.other hz5 (by omega)
  replace hz11 := pz22.other hz11 (by omega)
  replace hz18 : At Wz21 Wz8.heap.size (.cells #[.int .i64 p, .int .i64 n, .slice none 0 0, .slice none 0 0] 36 (0, 0)) := pz22.at_
  refine hK' _ _ ?_
  clear hK' K' pz22
  refine wpList_nil ?_
  go_upto_region 4 with (fail)
  refine wp_region_lit ?_
  refine ls_ex (some 10) (.pointer (some ⟨w.heap.size, 2, none⟩)) rfl rfl (exec_fieldAddr 30 _ 2 rfl _ (by kernel_rfl)) ?_
  go_frame
  refine ls_ex (some 11) (.slice As ss.length cs) rfl rfl (exec_load_one 27 _ rfl w.heap.size 2 rfl (.slice As ss.length cs) _ Try.underlying27 rfl (hz5.at_ 2)) ?_
  go_frame
  refine ls_op rfl (fun K' hK' => ?_)
  have lz25 := hB.size
  have lz26 := hz5.lt
  have lz27 := hz11.lt
  have lz28 := hz18.lt
  refine wp_call1 (some 12) rfl 36 _ _ rfl (fun args w => by kernel_rfl) _ rfl _ (toStepS_c As cs ss _ (hs.keep hB) hns) (fun e Wz23 h => ?_)
  obtain ⟨g1, rfl, hg1, hA1, bz24⟩ := h
  replace hB := below_after hB bz24
  replace hz5 := hz5.after bz24
  replace hz11 := hz11.after bz24
  replace hz18 := hz18.after bz24
  clear bz24
  refine ⟨_, rfl, ?_⟩
  refine hK' _ _ ?_
  clear hK' K'
  go_frame
  refine ls_ex (some 13) (.pointer (some ⟨Wz8.heap.size, 2, none⟩)) rfl rfl (exec_fieldAddr 36 _ 2 rfl _ (by kernel_rfl)) ?_
  go_frame
  refine ls_op rfl (fun K' hK' => ?_)
  refine wp_store_one 33 _ _ rfl rfl Wz8.heap.size 2 rfl (.slice (some ⟨g1, 0, none⟩) ss.length ss.length) rfl rfl rfl _ _ hz18 (by kernel_rfl) (by simp) (fun Wz29 pz30 => ?_)
  replace hB := pz30.below hB (by omega)
  replace hz5 := pz30.other hz5 (by omega)
  replace hz11 := pz30.other hz11 (by omega)
  replace hA1 := pz30.other hA1 (by omega)
  replace hz18 : At Wz29 Wz8.heap.size (.cells #[.int .i64 p, .int .i64 n, .slice (some ⟨g1, 0, none⟩) ss.length ss.length, .slice none 0 0] 36 (0, 0)) := pz30.at_
  refine hK' _ _ ?_
  clear hK' K' pz30
  refine wpList_nil ?_
  go_upto_region 5 with (fail)
  refine wp_region_lit ?_
  refine ls_ex (some 14) (.pointer (some ⟨w.heap.size, 3, none⟩)) rfl rfl (exec_fieldAddr 30 _ 3 rfl _ (by kernel_rfl)) ?_
  go_frame
  refine ls_ex (some 15) (.slice Ao os.length co) rfl rfl (exec_load_one 28 _ rfl w.heap.size 3 rfl (.slice Ao os.length co) _ Try.underlying28 rfl (hz5.at_ 3)) ?_
  go_frame
  refine ls_op rfl (fun K' hK' => ?_)
  have lz33 := hB.size
  have lz34 := hz5.lt
  have lz35 := hz11.lt
  have lz36 := hz18.lt
  have lz37 := hA1.lt
  refine wp_call1 (some 16) rfl 37 _ _ rfl (fun args w => by kernel_rfl) _ rfl _ (toOutputS_c Ao co os _ (ho.keep hB) hno) (fun e Wz31 h => ?_)
  obtain ⟨g2, rfl, hg2, hA2, bz32⟩ := h
  replace hB := below_after hB bz32
  replace hz5 := hz5.after bz32
  replace hz11 := hz11.after bz32
  replace hz18 := hz18.after bz32
  replace hA1 := hA1.after bz32
  clear bz32
  refine ⟨_, rfl, ?_⟩
  refine hK' _ _ ?_
  clear hK' K'
  go_frame
  refine ls_ex (some 17) (.pointer (some ⟨Wz8.heap.size, 3, none⟩)) rfl rfl (exec_fieldAddr 36 _ 3 rfl _ (by kernel_rfl)) ?_
  go_frame
  refine ls_op rfl (fun K' hK' => ?_)
  refine wp_store_one 34 _ _ rfl rfl Wz8.heap.size 3 rfl (.slice (some ⟨g2, 0, none⟩) os.length os.length) rfl rfl rfl _ _ hz18 (by kernel_rfl) (by simp) (fun Wz38 pz39 => ?_)
  replace hB := pz39.below hB (by omega)
  replace hz5 := pz39.other hz5 (by omega)
  replace hz11 := pz39.other hz11 (by omega)
  replace hA1 := pz39.other hA1 (by omega)
  replace hA2 := pz39.other hA2 (by omega)
  replace hz18 : At Wz38 Wz8.heap.size (.cells #[.int .i64 p, .int .i64 n, .slice (some ⟨g1, 0, none⟩) ss.length ss.length, .slice (some ⟨g2, 0, none⟩) os.length os.length] 36 (0, 0)) := pz39.at_
  refine hK' _ _ ?_
  clear hK' K' pz39
  refine wpList_nil ?_
  go_upto_region 6 with (fail)
  refine wp_region_lit ?_
  refine ls_ex (some 18) (.agg #[.int .i64 p, .int .i64 n, .slice (some ⟨g1, 0, none⟩) ss.length ss.length, .slice (some ⟨g2, 0, none⟩) os.length os.length]) rfl rfl (exec_load_all 36 _ rfl Wz8.heap.size rfl _ _ _ hz18 Try.underlying36 rfl 4 (by kernel_rfl) rfl) ?_
  go_frame
  refine ls_op rfl (fun K' hK' => ?_)
  refine wp_store_all 36 _ _ rfl rfl Wz2.heap.size rfl #[.int .i64 p, .int .i64 n, .slice (some ⟨g1, 0, none⟩) ss.length ss.length, .slice (some ⟨g2, 0, none⟩) os.length os.length] rfl _ _ hz11 4 (by kernel_rfl) rfl rfl (by intro x hx; simp at hx; rcases hx with rfl | rfl | rfl | rfl <;> rfl) (fun Wz40 pz41 => ?_)
  replace hB := pz41.below hB (by omega)
  replace hz5 := pz41.other hz5 (by omega)
  replace hz18 := pz41.other hz18 (by omega)
  replace hA1 := pz41.other hA1 (by omega)
  replace hA2 := pz41.other hA2 (by omega)
  replace hz11 : At Wz40 Wz2.heap.size (.cells #[.int .i64 p, .int .i64 n, .slice (some ⟨g1, 0, none⟩) ss.length ss.length, .slice (some ⟨g2, 0, none⟩) os.length os.length] 36 (0, 0)) := pz41.at_
  refine hK' _ _ ?_
  clear hK' K' pz41
  refine wpList_nil ?_
  go_wp2_with fail
  refine bodyPost_ret (results_at rfl _ _ Wz2.heap.size _ _ _ rfl hz11 Try.underlying36 rfl 4 (by kernel_rfl) rfl) rfl ?_
  exact ⟨g1, g2, rfl, by omega, by omega, hA1, hA2, hB⟩
set_option maxHeartbeats 4000000 in
theorem eqProgram_c (p n : Int) (As Ao Bs Bo : Option Addr) (cs co ds dq : Nat) (ss os : List (List Int)) (w : World) (hs : RdK 3 w As ss) (ho : RdK 2 w Ao os) (hs2 : RdK 3 w Bs ss) (ho2 : RdK 2 w Bo os) (hns : ss.length ≤ 9000000000000000000) (hno : os.length ≤ 9000000000000000000) :
    Calls Try.prog 16 #[.agg #[.int .i64 p, .int .i64 n, .slice As ss.length cs, .slice Ao os.length co], .agg #[.int .i64 p, .int .i64 n, .slice Bs ss.length ds, .slice Bo os.length dq]] w (fun e w' => e = .returned (.bool true) ∧ Below w.heap.size w w') := by
  have hB := Below.refl w.heap.size w
  skip
  go_enter Try.func16, Try.ntmps16
  go_upto_region 0 with (fail)
  refine wp_region_lit ?_
  refine ls_op rfl (fun K' hK' => ?_)
  have lz1 := hB.size
  refine wp_new (some 2) rfl (exec_box 36 _ rfl (#[.int .i64 p, .int .i64 n, .slice As ss.length cs, .slice Ao os.length co]) rfl) (fun Wz2 nnz3 => ?_)
  have bz4 := nnz3.below (Below.refl _ _) (Nat.le_refl _)
  replace hB := below_after hB bz4
  have hz5 : At Wz2 w.heap.size (.cells #[.int .i64 p, .int .i64 n, .slice As ss.length cs, .slice Ao os.length co] 36 (0, 0)) := nnz3.at_
  refine hK' _ _ ?_
  clear hK' K' nnz3 bz4
  go_frame
  refine ls_op rfl (fun K' hK' => ?_)
  have lz6 := hB.size
  have lz7 := hz5.lt
  refine wp_new (some 3) rfl (exec_box 36 _ rfl (#[.int .i64 p, .int .i64 n, .slice Bs ss.length ds, .slice Bo os.length dq]) rfl) (fun Wz8 nnz9 => ?_)
  have bz10 := nnz9.below (Below.refl _ _) (Nat.le_refl _)
  replace hB := below_after hB bz10
  replace hz5 := hz5.after bz10
  have hz11 : At Wz8 Wz2.heap.size (.cells #[.int .i64 p, .int .i64 n, .slice Bs ss.length ds, .slice Bo os.length dq] 36 (0, 0)) := nnz9.at_
  refine hK' _ _ ?_
  clear hK' K' nnz9 bz10
  go_frame
  refine ls_ex (some 4) (.bool false) rfl rfl (exec_assign _ rfl (.bool false) rfl) ?_
  go_frame
  refine wpList_nil ?_
  go_upto_region 1 with (fail)
  refine wp_region_lit ?_
  refine ls_ex (some 5) (.pointer (some ⟨w.heap.size, 0, none⟩)) rfl rfl (exec_fieldAddr 36 _ 0 rfl _ (by kernel_rfl)) ?_
  go_frame
  refine ls_ex (some 6) (.int .i64 p) rfl rfl (exec_load_one 2 _ rfl w.heap.size 0 rfl (.int .i64 p) _ Try.underlying2 rfl (hz5.at_ 0)) ?_
  go_frame
  refine ls_ex (some 7) (.pointer (some ⟨Wz2.heap.size, 0, none⟩)) rfl rfl (exec_fieldAddr 36 _ 0 rfl _ (by kernel_rfl)) ?_
  go_frame
  refine ls_ex (some 8) (.int .i64 p) rfl rfl (exec_load_one 2 _ rfl Wz2.heap.size 0 rfl (.int .i64 p) _ Try.underlying2 rfl (hz11.at_ 0)) ?_
  go_frame
  refine ls_ex (some 9) (.bool false) rfl rfl (exec_neq _ _ _ _ rfl p p rfl rfl false (by simp)) ?_
  go_frame
  refine wpList_nil ?_
  go_upto_region 3 with (fail)
  refine wp_region_lit ?_
  refine ls_ex (some 10) (.pointer (some ⟨w.heap.size, 1, none⟩)) rfl rfl (exec_fieldAddr 36 _ 1 rfl _ (by kernel_rfl)) ?_
  go_frame
  refine ls_ex (some 11) (.int .i64 n) rfl rfl (exec_load_one 2 _ rfl w.heap.size 1 rfl (.int .i64 n) _ Try.underlying2 rfl (hz5.at_ 1)) ?_
  go_frame
  refine ls_ex (some 12) (.pointer (some ⟨Wz2.heap.size, 1, none⟩)) rfl rfl (exec_fieldAddr 36 _ 1 rfl _ (by kernel_rfl)) ?_
  go_frame
  refine ls_ex (some 13) (.int .i64 n) rfl rfl (exec_load_one 2 _ rfl Wz2.heap.size 1 rfl (.int .i64 n) _ Try.underlying2 rfl (hz11.at_ 1)) ?_
  go_frame
  refine ls_ex (some 14) (.bool false) rfl rfl (exec_neq _ _ _ _ rfl n n rfl rfl false (by simp)) ?_
  go_frame
  refine wpList_nil ?_
  go_upto_region 5 with (fail)
  refine wp_region_lit ?_
  refine ls_ex (some 15) (.pointer (some ⟨w.heap.size, 2, none⟩)) rfl rfl (exec_fieldAddr 36 _ 2 rfl _ (by kernel_rfl)) ?_
  go_frame
  refine ls_ex (some 16) (.slice As ss.length cs) rfl rfl (exec_load_one 33 _ rfl w.heap.size 2 rfl (.slice As ss.length cs) _ Try.underlying33 rfl (hz5.at_ 2)) ?_
  go_frame
  refine ls_ex (some 17) (.pointer (some ⟨Wz2.heap.size, 2, none⟩)) rfl rfl (exec_fieldAddr 36 _ 2 rfl _ (by kernel_rfl)) ?_
  go_frame
  refine ls_ex (some 18) (.slice Bs ss.length ds) rfl rfl (exec_load_one 33 _ rfl Wz2.heap.size 2 rfl (.slice Bs ss.length ds) _ Try.underlying33 rfl (hz11.at_ 2)) ?_
  go_frame
  refine ls_op rfl (fun K' hK' => ?_)
  have lz14 := hB.size
  have lz15 := hz5.lt
  have lz16 := hz11.lt
  refine wp_call2 (some 19) rfl 43 _ _ _ rfl (fun args w => by kernel_rfl) _ _ rfl rfl _ (eqStepS_c As Bs cs ds ss _ (hs.keep hB) (hs2.keep hB) hns) (fun e Wz12 h => ?_)
  obtain ⟨rfl, bz13⟩ := h
  replace hB := below_after hB bz13
  replace hz5 := hz5.after bz13
  replace hz11 := hz11.after bz13
  clear bz13
  refine ⟨_, rfl, ?_⟩
  refine hK' _ _ ?_
  clear hK' K'
  go_frame
  refine ls_ex (some 20) (.bool false) rfl rfl (exec_not _ _ rfl true rfl) ?_
  go_frame
  refine wpList_nil ?_
  go_upto_region 7 with (fail)
  refine wp_region_lit ?_
  refine ls_ex (some 21) (.pointer (some ⟨w.heap.size, 3, none⟩)) rfl rfl (exec_fieldAddr 36 _ 3 rfl _ (by kernel_rfl)) ?_
  go_frame
  refine ls_ex (some 22) (.slice Ao os.length co) rfl rfl (exec_load_one 34 _ rfl w.heap.size 3 rfl (.slice Ao os.length co) _ Try.underlying34 rfl (hz5.at_ 3)) ?_
  go_frame
  refine ls_ex (some 23) (.pointer (some ⟨Wz2.heap.size, 3, none⟩)) rfl rfl (exec_fieldAddr 36 _ 3 rfl _ (by kernel_rfl)) ?_
  go_frame
  refine ls_ex (some 24) (.slice Bo os.length dq) rfl rfl (exec_load_one 34 _ rfl Wz2.heap.size 3 rfl (.slice Bo os.length dq) _ Try.underlying34 rfl (hz11.at_ 3)) ?_
  go_frame
  refine ls_op rfl (fun K' hK' => ?_)
  have lz19 := hB.size
  have lz20 := hz5.lt
  have lz21 := hz11.lt
  refine wp_call2 (some 25) rfl 44 _ _ _ rfl (fun args w => by kernel_rfl) _ _ rfl rfl _ (eqOutputS_c Ao Bo co dq os _ (ho.keep hB) (ho2.keep hB) hno) (fun e Wz17 h => ?_)
  obtain ⟨rfl, bz18⟩ := h
  replace hB := below_after hB bz18
  replace hz5 := hz5.after bz18
  replace hz11 := hz11.after bz18
  clear bz18
  refine ⟨_, rfl, ?_⟩
  refine hK' _ _ ?_
  clear hK' K'
  go_frame
  refine ls_ex (some 26) (.bool false) rfl rfl (exec_not _ _ rfl true rfl) ?_
  go_frame
  refine wpList_nil ?_
  go_upto_region 9 with (fail)
  refine wp_region_lit ?_
  refine ls_ex (some 4) (.bool true) rfl rfl (exec_assign _ rfl (.bool true) rfl) ?_
  go_frame
  refine wpList_nil ?_
  go_wp2_with fail
  go_ret
  exact ⟨rfl, hB⟩
set_option maxHeartbeats 800000 in
theorem szProgram_e (p n : Int) (As Ao : Option Addr) (ls cs lo co : Nat) (l : Int) (w : World) (h0 : 0 ≤ l) (hns : ls ≤ 9223372036854775807) (hno : lo ≤ 9223372036854775807) (hl : l ≤ 1048576) :
    Calls Try.prog 12 #[.agg #[.int .i64 p, .int .i64 n, .slice As ls cs, .slice Ao lo co], .int .i64 l] w (fun e w' => ∃ r, e = .returned (.int .i64 r) ∧ SzN (ls + lo) l r ∧ Below w.heap.size w w') := by
  go_enter Try.func12, Try.ntmps12
  go_wp2_with fail
  refine (szStepS_e As ls cs l _ h0 hns hl).mono ?_
  rintro e w1 ⟨r, rfl, hr, rfl⟩
  rcases hr with rfl | ⟨hr0, hr1⟩
  · go_wp2_with fail
    go_ret
    exact ⟨-1, rfl, .inl rfl, below1 _ _⟩
  · have hnr : ¬ r < 0 := by omega
    go_wp2_with fail
    refine (szOutputS_e Ao lo co r _ hr0 hno (by omega)).mono ?_
    rintro e w1 ⟨q, rfl, hq, rfl⟩
    rcases hq with rfl | ⟨hq0, hq1⟩
    · go_wp2_with fail
      go_ret
      exact ⟨-1, rfl, .inl rfl, below1 _ _⟩
    · have hnq : ¬ q < 0 := by omega
      go_wp2_with fail
      go_ret
      exact ⟨q, rfl, .inr ⟨by omega, by omega⟩, below1 _ _⟩
set_option maxHeartbeats 800000 in
theorem markProgram_c (p n : Int) {lo hi : Nat} {v u : Value} {ss os : List (List Int)} (K : Nat) (w : World) (hs : OwnK 57 3 w lo v ss) (ho : OwnK 61 2 w lo u os) (i1 : In lo hi v) (i2 : In lo hi u) (hns : ss.length ≤ 1048576) (hno : os.length ≤ 1048576) (hk : K ≤ 1000000000) :
    Calls Try.prog 20 #[.agg #[.int .i64 p, .int .i64 n, v, u], .int .i64 (K : Int)] w fun e w' => e = .returned (.int .i64 ((K + ss.length * 3 + os.length * 2 : Nat) : Int)) ∧ Same lo hi w w' ∧ HeldI w' v K (ss.length * 3) ∧ HeldI w' u (K + ss.length * 3) (os.length * 2) := by
  have b1 : Below w.heap.size w (w.alloc (.cells #[.int .i64 p, .int .i64 n, v, u] 36 (0, 0))) := below1 _ _
  have hne : v.ownBlock = none ∨ v.ownBlock ≠ u.ownBlock := by
    rcases hs.2.2 with ⟨rfl, _⟩ | ⟨g', cap, cur, rfl, hb, hgg, _⟩
    · exact .inl rfl
    · exact .inr (ho.off (g := g') (cs := cur) (t' := 57) hgg (by decide))
  go_enter Try.func20, Try.ntmps20
  go_wp2_with fail
  have hs1 := hs.below b1
  have ho1 := ho.below b1
  refine (markStepS_c K _ hs1 hns (by omega)).mono ?_
  rintro e w1 ⟨rfl, hG, hH⟩
  have ho2 := ho1.grown hG (own_symm hne)
  have hbx : At (w.alloc (.cells #[.int .i64 p, .int .i64 n, v, u] 36 (0, 0))) w.heap.size (.cells #[.int .i64 p, .int .i64 n, v, u] 36 (0, 0)) := al1_0 _ _
  have hbx1 := hbx.grown hG (fun e => by have := (hs.lt e.symm).2; omega)
  have c3 : w1.cell? ⟨w.heap.size, 3, none⟩ = some u := hbx1.at_ 3
  clear hbx hbx1
  go_wp2_with fail
  refine (markOutputS_c (K + ss.length * 3) _ ho2 hno (by omega)).mono ?_
  rintro e w2 ⟨rfl, hG2, hH2⟩
  go_wp2_with fail
  go_ret
  refine ⟨rfl, ((_root_.Go.Proofs.Ytokmchadckcilaa.Below.same b1 lo hi).trans (Same.of_in hG i1)).trans (Same.of_in hG2 i2), fun g hg i hi => ?_, hH2⟩
  have hc := hH g hg i hi
  have hblk := hG2.block g (block_lt_of_cell hc) (by rcases hne with h | h <;> simp_all)
  rw [World.cell?_of_block (a := ⟨g, i, none⟩) (w := w1) hblk]
  exact hc
theorem markProgram_2 (p n : Int) {lo hi : Nat} {v u : Value} {ss os : List (List Int)} (K : Nat) (kk : Int) (w : World) (hk' : kk = (K : Int)) (hs : OwnK 57 3 w lo v ss) (ho : OwnK 61 2 w lo u os) (i1 : In lo hi v) (i2 : In lo hi u) (hns : ss.length ≤ 1048576) (hno : os.length ≤ 1048576) (hk : K ≤ 1000000000) :
    Calls Try.prog 20 #[.agg #[.int .i64 p, .int .i64 n, v, u], .int .i64 kk] w fun e w' => e = .returned (.int .i64 ((K + ss.length * 3 + os.length * 2 : Nat) : Int)) ∧ Same lo hi w w' ∧ HeldI w' v K (ss.length * 3) ∧ HeldI w' u (K + ss.length * 3) (os.length * 2) := by
  subst hk'
  exact markProgram_c p n K w hs ho i1 i2 hns hno hk
end Go.Proofs.Ytokmchadckcilaa
