/-
  impl.withOneMore, plainMethod; PlainMethod of both sides. (Made by mkpmi.py.)
-/
import Derived.Test.YtopdfblfhdooaaaDoM
import Derived.Test.YtopdfblfhdooaaaNrm4
import Derived.Test.YtopdfblfhdooaaaPan
import Derived.Test.YtopdfblfhdooaaaRight1
import Derived.Test.YtopdfblfhdooaaaTen4
namespace Go.Proofs.Ytopdfblfhdooaaa
open Go.RowKit
set_option maxRecDepth 100000
attribute [local irreducible] wpList
theorem exec_mkf1M {P : Program} {o : Oper} {a : Act} {w : World} (f : FuncId) (x : Operand) (ho : o.op = .makeFunc (.func f) #[] #[x]) (u : Value) (hx : a.eval x = u) : (execOp a.eval o).run P w = .ok (.value (.func (.func f) #[] #[u])) w := by
  subst hx
  unfold execOp
  simp only [ho]
  simp [go_sem]
theorem ten_nats {p a b d : Int} {xs : List Int} (h : tenB p a b d xs = true) : ∃ A B D : Nat, a = A ∧ b = B ∧ d = D := by
  unfold tenB sideB at h
  simp only [Bool.and_eq_true, decide_eq_true_eq] at h
  exact ⟨a.toNat, b.toNat, d.toNat, by omega, by omega, by omega⟩
theorem plCode_cases {p : Int} {a b d : Nat} {xs : List Int} (h : tenB p a b d xs = true) : plCode p a b d xs = 0 ∨ plCode p a b d xs = 3 := by
  unfold plCode
  rw [h, if_pos rfl]
  split
  · exact .inl rfl
  · exact .inr rfl
theorem grown_below {w w' : World} (h : Below w.heap.size w w') (r : Option Nat) : w.grownBy w' r := ⟨h.os, h.tape, h.output, h.size, fun k hk _ => h.block k hk⟩
theorem unitL_bytes {j : Nat} (_ : j < 9) : Bytes 9 (unitL j) := ⟨unitL_len j, fun n hn => by
  unfold unitL at hn
  rcases List.mem_or_eq_of_mem_set hn with h1 | rfl
  · have h2 := (List.mem_replicate.1 h1).2
    omega
  · omega⟩
theorem set_rep {n m i y : Nat} (h : i < n) : (List.replicate (n + m) 0).set i y = (List.replicate n 0).set i y ++ List.replicate m 0 := by
  rw [← List.replicate_append_replicate, List.set_append_left _ _ (by simpa using h)]
theorem pl_cat {p X : Int} {I J K : Nat} (hI : I < 9) (hJ : J < 9) (_ : K < 9) (hX : 0 ≤ X ∧ X < p) (_ : p ≤ 5) : (((List.replicate 27 0).set I X.toNat).set (9 + J) 1).set (18 + K) 1 = cat3 (scF p X (unitL I)) (unitL J) (unitL K) := by
  have e1 : scF p X (unitL I) = (List.replicate 9 0).set I X.toNat := by
    unfold scF adF unitL
    apply List.ext_getElem
    · simp
    · intro t h1 h2
      simp only [List.getElem_map, List.getElem_range, List.getElem_set]
      have z0 : (List.replicate 9 (0 : Nat))[t]?.getD 0 = 0 := by rw [List.getElem?_replicate]; split <;> rfl
      by_cases e : I = t
      · subst e
        rw [z0, List.getElem?_set_self (by rw [List.length_replicate]; exact hI), if_pos rfl, Option.getD_some]
        unfold ad1
        rw [Int.natCast_one, Int.mul_one, Int.natCast_zero, Int.zero_add, Int.emod_eq_of_lt hX.1 hX.2]
      · rw [if_neg e, List.getElem?_set_ne e, z0]
        unfold ad1
        rw [Int.natCast_zero, Int.mul_zero, Int.add_zero, Int.zero_emod, List.getElem_replicate]
        rfl
  rw [e1, show (27 : Nat) = 9 + (9 + 9) from rfl, set_rep hI]
  have l1 : ((List.replicate 9 0).set I X.toNat).length = 9 := by simp
  generalize (List.replicate 9 0).set I X.toNat = z at l1
  rw [List.set_append_right _ _ (by omega), l1, Nat.add_sub_cancel_left, set_rep hJ, List.set_append_right _ _ (by omega), l1, show 18 + K - 9 = 9 + K by omega, List.set_append_right _ _ (by simp), show ((List.replicate 9 0).set J 1).length = 9 by simp, Nat.add_sub_cancel_left]
  unfold cat3 unitL
  rw [List.append_assoc]
set_option maxHeartbeats 4000000 in
theorem withOneMore_c {lo : Nat} (A : Option Addr) (N c : Nat) (qs : List (List Nat)) (q : List Nat) (w : World) (ho : Own w lo (.slice A N c) qs) (hqs : qs.length = N) (hq : Bytes 27 q) (hN : N < 30) (hlo : lo ≤ w.heap.size) :
    Calls Try.prog 59 #[.slice A N c, .agg (u8s q)] w (fun e w' => ∃ v, e = .returned v ∧ Own w' lo v (qs ++ [q]) ∧ w.grownBy w' (Value.slice A N c).ownBlock) := by
  have hB := Below.refl w.heap.size w
  have hZ := Below.refl w.heap.size w
  have hG := grown_refl w (Value.slice A N c).ownBlock
  clear hB
  go_enter Try.func59, Try.ntmps59
  go_upto_region 0 with (fail)
  refine wp_region_lit ?_
  refine ls_op rfl (fun K' hK' => ?_)
  have lz1 := hZ.size
  have lz2 := hG.size
  have naz7 := ho.away_new
  refine wp_new (some 3) rfl (exec_box 53 _ rfl (u8s (q)) rfl) (fun Wz3 nnz4 => ?_)
  have bz5 := nnz4.below (Below.refl _ _) (Nat.le_refl _)
  replace hZ := below_after hZ bz5
  replace ho := ho.below bz5
  replace hG := grown_trans hG (grown_below bz5 _)
  have hz6 : At Wz3 w.heap.size (.cells (u8s (q)) 53 (0, 0)) := nnz4.at_
  refine hK' _ _ ?_
  clear hK' K' nnz4 bz5
  go_frame
  refine ls_ex (some 4) (.slice none 0 0) rfl rfl (exec_assign _ rfl (.slice none 0 0) rfl) ?_
  go_frame
  refine wpList_nil ?_
  go_upto_region 1 with (fail)
  refine wp_region_lit ?_
  refine ls_ex (some 5) (.slice A N c) rfl rfl (exec_move _ rfl (.slice A N c) rfl) ?_
  go_frame
  refine ls_ex (some 6) (.int .i64 N) rfl rfl (exec_len _ 26 53 rfl A N c rfl Try.underlying26) ?_
  go_frame
  refine ls_ex (some 7) (.bool false) rfl rfl (exec_eql _ _ _ _ rfl N 30 rfl rfl false (beq_eq_false_iff_ne.2 (by omega))) ?_
  go_frame
  refine wpList_nil ?_
  go_upto_region 3 with (fail)
  refine wp_region_lit ?_
  refine ls_ex (some 9) (.slice A N c) rfl rfl (exec_move _ rfl (.slice A N c) rfl) ?_
  go_frame
  refine ls_ex (some 10) (.agg (u8s (q))) rfl rfl (exec_load_all 53 _ rfl w.heap.size rfl _ _ _ hz6 Try.underlying53 rfl 27 (by kernel_rfl) ((u8s_size _).trans hq.len)) ?_
  go_frame
  refine ls_op rfl (fun K' hK' => ?_)
  have lz8 := hZ.size
  have lz9 := hG.size
  have lz10 := hz6.lt
  refine wp_slice1 (some 11) rfl 26 53 _ rfl (q) rfl Try.underlying26 infoProd hq.len (fun Wz11 nnz12 => ?_)
  have bz13 := nnz12.below (Below.refl _ _) (Nat.le_refl _)
  replace hZ := below_after hZ bz13
  replace ho := ho.below bz13
  replace hG := grown_trans hG (grown_below bz13 _)
  replace hz6 := hz6.after bz13
  have hq1 : At Wz11 Wz3.heap.size (.cells (u8s (q)) 53 (0, 0)) := nnz12.at_
  refine hK' _ _ ?_
  clear hK' K' nnz12 bz13
  go_frame
  refine ls_op rfl (fun K' hK' => ?_)
  have lz17 := hZ.size
  have lz18 := hG.size
  have lz19 := hz6.lt
  have lz20 := hq1.lt
  refine wp_appP (some 12) rfl _ _ rfl (.slice A N c) (qs) (q) rfl ho Wz3.heap.size rfl hq1 hq.len (by omega) (by omega) (fun v9 Wz14 noz16 grz15 => ?_)
  have hG2 := grown_trans hG grz15
  clear hG
  refine hK' _ _ ?_
  clear hK' K'
  go_frame
  refine ls_ex (some 4) (v9) rfl rfl (exec_assign _ rfl (v9) rfl) ?_
  go_frame
  refine wpList_nil ?_
  go_wp2_with fail
  go_ret
  exact ⟨_, rfl, noz16, hG2⟩
theorem withOneMore_no (A : Option Addr) (N c : Nat) (q : List Nat) (w : World) (hN : N = 30) : Calls Try.prog 59 #[.slice A N c, .agg (u8s q)] w (fun e w' => FailsM e ∧ Below w.heap.size w w') := by
  subst hN
  have d0 : ((((30 : Nat) : Int)) == 30) = true := rfl
  go_enter Try.func59, Try.ntmps59
  go_wp2_with (refine wpList_abs1 ?_; intro W hsz hB h0)
  exact ⟨rfl, rfl, hB⟩
theorem bset {l : List Nat} (h : Bytes 27 l) {i v : Nat} (hv : v < 256) : Bytes 27 (l.set i v) := ⟨by rw [List.length_set, h.len], fun n hn => by
  rcases List.mem_or_eq_of_mem_set hn with h1 | rfl
  · exact h.2 n h1
  · exact hv⟩
theorem plP_bytes {b d t : Nat} {x : Int} (hx : x.toNat < 256) : Bytes 27 (plP b d x t) :=
  bset (bset (bset ⟨by simp, fun n hn => by have := (List.mem_replicate.1 hn).2; omega⟩ hx) (by omega)) (by omega)
theorem pl_ok {p a b d : Int} {xs : List Int} : (∀ r ∈ hL (plCode p a b d xs) (plL b.toNat d.toNat xs xs.length), Bytes 27 r) ∧ (hL (plCode p a b d xs) (plL b.toNat d.toNat xs xs.length)).length ≤ 1048576 := by
  unfold hL
  split
  · next hc =>
    unfold plCode at hc
    split at hc
    · next hs =>
      split at hc
      · next hl =>
        refine ⟨fun r hr => ?_, by omega⟩
        obtain ⟨A, B, D, rfl, rfl, rfl⟩ := ten_nats hs
        have hp5 := prime_le5 (ten_parts hs).1
        have hn := (ten_parts hs).2.2.2.2.2
        obtain ⟨t, ht, rfl⟩ := List.mem_map.1 hr
        have h1 := List.mem_range.1 (List.mem_filter.1 ht).1
        have h2 := inB_of hn (List.getElem?_eq_getElem h1)
        rw [List.getElem?_eq_getElem h1, Option.getD_some]
        exact plP_bytes (by omega)
      · omega
    · omega
  · exact ⟨fun r hr => by simp at hr, by simp⟩
end Go.Proofs.Ytopdfblfhdooaaa
