/-
  impl.withOneMore, plainMethod; PlainMethod of both sides. (Made by mkpmi.py.)
-/
import Derived.Test.YtdbcgbbokodndaaDoM
import Derived.Test.YtdbcgbbokodndaaNrm4
import Derived.Test.YtdbcgbbokodndaaPan
import Derived.Test.YtdbcgbbokodndaaRight1
import Derived.Test.YtdbcgbbokodndaaTen4
namespace Go.Proofs.Ytdbcgbbokodndaa
open Go.RowKit
set_option maxRecDepth 100000
attribute [local irreducible] wpList
theorem exec_mkf1M {P : Program} {o : Oper} {a : Act} {w : World} (f : FuncId) (x : Operand) (ho : o.op = .makeFunc (.func f) #[] #[x]) (u : Value) (hx : a.eval x = u) : (execOp a.eval o).run P w = .ok (.value (.func (.func f) #[] #[u])) w := by
  subst hx
  unfold execOp
  simp only [ho]
  simp [go_sem]
theorem ten_nats {p a b d : Int} {xs : List Int} (h : tenB p a b d xs = true) : ∃ A B D : Nat, a = A ∧ b = B ∧ d = D := by
  unfold tenB sideB at h
  simp only [Bool.and_eq_true, decide_eq_true_eq] at h
  exact ⟨a.toNat, b.toNat, d.toNat, by omega, by omega, by omega⟩
theorem plCode_cases {p : Int} {a b d : Nat} {xs : List Int} (h : tenB p a b d xs = true) : plCode p a b d xs = 0 ∨ plCode p a b d xs = 3 := by
  unfold plCode
  rw [h, if_pos rfl]
  split
  · exact .inl rfl
  · exact .inr rfl
theorem implIsTensorN_c (p i j k : Int) (A : Option Addr) (N c : Nat) (xs : List Int) (w : World) (hN : xs.length = N) (hr : RdI w A xs) (hn : N ≤ 1048576) :
    Calls Try.prog 31 #[.agg #[.int .i64 p, .int .i64 i, .int .i64 j, .int .i64 k, .slice A N c]] w fun e w' => e = .returned (.bool (tenB p i j k xs)) ∧ Below w.heap.size w w' := by
  subst hN
  exact implIsTensor_c p i j k A c xs w hr hn
theorem grown_below {w w' : World} (h : Below w.heap.size w w') (r : Option Nat) : w.grownBy w' r := ⟨h.os, h.tape, h.output, h.size, fun k hk _ => h.block k hk⟩
theorem unitL_bytes {j : Nat} (_ : j < 9) : Bytes 9 (unitL j) := ⟨unitL_len j, fun n hn => by
  unfold unitL at hn
  rcases List.mem_or_eq_of_mem_set hn with h1 | rfl
  · have h2 := (List.mem_replicate.1 h1).2
    omega
  · omega⟩
theorem set_rep {n m i y : Nat} (h : i < n) : (List.replicate (n + m) 0).set i y = (List.replicate n 0).set i y ++ List.replicate m 0 := by
  rw [← List.replicate_append_replicate, List.set_append_left _ _ (by simpa using h)]
theorem pl_cat {p X : Int} {I J K : Nat} (hI : I < 9) (hJ : J < 9) (_ : K < 9) (hX : 0 ≤ X ∧ X < p) (_ : p ≤ 5) : (((List.replicate 27 0).set I X.toNat).set (9 + J) 1).set (18 + K) 1 = cat3 (scF p X (unitL I)) (unitL J) (unitL K) := by
  have e1 : scF p X (unitL I) = (List.replicate 9 0).set I X.toNat := by
    unfold scF adF unitL
    apply List.ext_getElem
    · simp
    · intro t h1 h2
      simp only [List.getElem_map, List.getElem_range, List.getElem_set]
      have z0 : (List.replicate 9 (0 : Nat))[t]?.getD 0 = 0 := by rw [List.getElem?_replicate]; split <;> rfl
      by_cases e : I = t
      · subst e
        rw [z0, List.getElem?_set_self (by rw [List.length_replicate]; exact hI), if_pos rfl, Option.getD_some]
        unfold ad1
        rw [Int.natCast_one, Int.mul_one, Int.natCast_zero, Int.zero_add, Int.emod_eq_of_lt hX.1 hX.2]
      · rw [if_neg e, List.getElem?_set_ne e, z0]
        unfold ad1
        rw [Int.natCast_zero, Int.mul_zero, Int.add_zero, Int.zero_emod, List.getElem_replicate]
        rfl
  rw [e1, show (27 : Nat) = 9 + (9 + 9) from rfl, set_rep hI]
  have l1 : ((List.replicate 9 0).set I X.toNat).length = 9 := by simp
  generalize (List.replicate 9 0).set I X.toNat = z at l1
  rw [List.set_append_right _ _ (by omega), l1, Nat.add_sub_cancel_left, set_rep hJ, List.set_append_right _ _ (by omega), l1, show 18 + K - 9 = 9 + K by omega, List.set_append_right _ _ (by simp), show ((List.replicate 9 0).set J 1).length = 9 by simp, Nat.add_sub_cancel_left]
  unfold cat3 unitL
  rw [List.append_assoc]
set_option maxHeartbeats 4000000 in
theorem withOneMore_c {lo : Nat} (A : Option Addr) (N c : Nat) (qs : List (List Nat)) (q : List Nat) (w : World) (ho : Own w lo (.slice A N c) qs) (hqs : qs.length = N) (hq : Bytes 27 q) (hN : N < 30) (hlo : lo ≤ w.heap.size) :
    Calls Try.prog 60 #[.slice A N c, .agg (u8s q)] w (fun e w' => ∃ v, e = .returned v ∧ Own w' lo v (qs ++ [q]) ∧ w.grownBy w' (Value.slice A N c).ownBlock) := by
  have hB := Below.refl w.heap.size w
  have hZ := Below.refl w.heap.size w
  have hG := grown_refl w (Value.slice A N c).ownBlock
  clear hB
  go_enter Try.func60, Try.ntmps60
  go_upto_region 0 with (fail)
  refine wp_region_lit ?_
  refine ls_op rfl (fun K' hK' => ?_)
  have lz1 := hZ.size
  have lz2 := hG.size
  have naz7 := ho.away_new
  refine wp_new (some 3) rfl (exec_box 54 _ rfl (u8s (q)) rfl) (fun Wz3 nnz4 => ?_)
  have bz5 := nnz4.below (Below.refl _ _) (Nat.le_refl _)
  replace hZ := below_after hZ bz5
  replace ho := ho.below bz5
  replace hG := grown_trans hG (grown_below bz5 _)
  have hz6 : At Wz3 w.heap.size (.cells (u8s (q)) 54 (0, 0)) := nnz4.at_
  refine hK' _ _ ?_
  clear hK' K' nnz4 bz5
  go_frame
  refine ls_ex (some 4) (.slice none 0 0) rfl rfl (exec_assign _ rfl (.slice none 0 0) rfl) ?_
  go_frame
  refine wpList_nil ?_
  go_upto_region 1 with (fail)
  refine wp_region_lit ?_
  refine ls_ex (some 5) (.slice A N c) rfl rfl (exec_move _ rfl (.slice A N c) rfl) ?_
  go_frame
  refine ls_ex (some 6) (.int .i64 N) rfl rfl (exec_len _ 26 54 rfl A N c rfl Try.underlying26) ?_
  go_frame
  refine ls_ex (some 7) (.bool false) rfl rfl (exec_eql _ _ _ _ rfl N 30 rfl rfl false (beq_eq_false_iff_ne.2 (by omega))) ?_
  go_frame
  refine wpList_nil ?_
  go_upto_region 3 with (fail)
  refine wp_region_lit ?_
  refine ls_ex (some 9) (.slice A N c) rfl rfl (exec_move _ rfl (.slice A N c) rfl) ?_
  go_frame
  refine ls_ex (some 10) (.agg (u8s (q))) rfl rfl (exec_load_all 54 _ rfl w.heap.size rfl _ _ _ hz6 Try.underlying54 rfl 27 (by kernel_rfl) ((u8s_size _).trans hq.len)) ?_
  go_frame
  refine ls_op rfl (fun K' hK' => ?_)
  have lz8 := hZ.size
  have lz9 := hG.size
  have lz10 := hz6.lt
  refine wp_slice1 (some 11) rfl 26 54 _ rfl (q) rfl Try.underlying26 infoProd hq.len (fun Wz11 nnz12 => ?_)
  have bz13 := nnz12.below (Below.refl _ _) (Nat.le_refl _)
  replace hZ := below_after hZ bz13
  replace ho := ho.below bz13
  replace hG := grown_trans hG (grown_below bz13 _)
  replace hz6 := hz6.after bz13
  have hq1 : At Wz11 Wz3.heap.size (.cells (u8s (q)) 54 (0, 0)) := nnz12.at_
  refine hK' _ _ ?_
  clear hK' K' nnz12 bz13
  go_frame
  refine ls_op rfl (fun K' hK' => ?_)
  have lz17 := hZ.size
  have lz18 := hG.size
  have lz19 := hz6.lt
  have lz20 := hq1.lt
  refine wp_appP (some 12) rfl _ _ rfl (.slice A N c) (qs) (q) rfl ho Wz3.heap.size rfl hq1 hq.len (by omega) (by omega) (fun v9 Wz14 noz16 grz15 => ?_)
  have hG2 := grown_trans hG grz15
  clear hG
  refine hK' _ _ ?_
  clear hK' K'
  go_frame
  refine ls_ex (some 4) (v9) rfl rfl (exec_assign _ rfl (v9) rfl) ?_
  go_frame
  refine wpList_nil ?_
  go_wp2_with fail
  go_ret
  exact ⟨_, rfl, noz16, hG2⟩
theorem withOneMore_no (A : Option Addr) (N c : Nat) (q : List Nat) (w : World) (hN : N = 30) : Calls Try.prog 60 #[.slice A N c, .agg (u8s q)] w (fun e w' => FailsM e ∧ Below w.heap.size w w') := by
  subst hN
  have d0 : ((((30 : Nat) : Int)) == 30) = true := rfl
  go_enter Try.func60, Try.ntmps60
  go_wp2_with (refine wpList_abs1 ?_; intro W hsz hB h0)
  exact ⟨rfl, rfl, hB⟩
set_option maxHeartbeats 12800000 in
theorem plainMethod_ok (p : Int) (a b d : Nat) (bB oB c N : Nat) (xs : List Int) (w : World) (hX : RdI w (some ⟨bB, oB, none⟩) xs) (hxl : xs.length = N) (hs : tenB p a b d xs = true) (hc : plCode p a b d xs = 0) :
    Calls Try.prog 34 #[.agg #[.int .i64 p, .int .i64 a, .int .i64 b, .int .i64 d, .slice (some ⟨bB, oB, none⟩) N c]] w (fun e w' => ∃ v, e = .returned (.agg #[.int .i64 p, .int .i64 a, .int .i64 b, .int .i64 d, v]) ∧ Own w' w.heap.size v (plL b d xs (N)) ∧ Below w.heap.size w w') := by
  have hB := Below.refl w.heap.size w
  have HC := Lib.hid hc
  clear hc
  have hp5 := prime_le5 (ten_parts hs).1
  have hdm := (ten_parts hs).2
  have ha1 : 1 ≤ a ∧ a ≤ 9 := hdm.1
  have hb0 : 1 ≤ b ∧ b ≤ 9 := hdm.2.1
  have hd0 : 1 ≤ d ∧ d ≤ 9 := hdm.2.2.1
  have hb1 : 0 < b := hb0.1
  have hd1 : 0 < d := hd0.1
  have HN3 : Hid (a * b * d = N) := Lib.hid (by rw [← hxl]; exact hdm.2.2.2.1.symm)
  have HNb := Lib.hid hdm.2.2.2.2
  have hNb : N ≤ 729 := by rw [← HN3.out]; exact Nat.le_trans (Nat.mul_le_mul (Nat.mul_le_mul ha1.2 hb0.2) hd0.2) (by decide)
  have HXl := Lib.hid hxl
  have hs9 := Lib.hid hs
  have Hs := Lib.hid hs
  clear hs hxl hdm
  go_enter Try.func34, Try.ntmps34
  go_upto_region 0 with (fail)
  refine wp_region_lit ?_
  refine ls_op rfl (fun K' hK' => ?_)
  have lz1 := hB.size
  refine wp_new (some 1) rfl (exec_box 31 _ rfl (#[.int .i64 p, .int .i64 a, .int .i64 b, .int .i64 d, .slice (some ⟨bB, oB, none⟩) N c]) rfl) (fun Wz2 nnz3 => ?_)
  have bz4 := nnz3.below (Below.refl _ _) (Nat.le_refl _)
  replace hB := below_after hB bz4
  have hz5 : At Wz2 w.heap.size (.cells #[.int .i64 p, .int .i64 a, .int .i64 b, .int .i64 d, .slice (some ⟨bB, oB, none⟩) N c] 31 (0, 0)) := nnz3.at_
  refine hK' _ _ ?_
  clear hK' K' nnz3 bz4
  go_frame
  refine ls_op rfl (fun K' hK' => ?_)
  have lz6 := hB.size
  have lz7 := hz5.lt
  refine wp_new (some 2) rfl (al_impl_Method rfl) (fun Wz8 nnz9 => ?_)
  have bz10 := nnz9.below (Below.refl _ _) (Nat.le_refl _)
  replace hB := below_after hB bz10
  replace hz5 := hz5.after bz10
  have hz11 : At Wz8 Wz2.heap.size (.cells #[.int .i64 0, .int .i64 0, .int .i64 0, .int .i64 0, .slice none 0 0] 28 (0, 0)) := nnz9.at_
  refine hK' _ _ ?_
  clear hK' K' nnz9 bz10
  go_frame
  refine wpList_nil ?_
  go_upto_region 1 with (fail)
  refine wp_region_lit ?_
  refine ls_ex (some 3) (.slice none 0 0) rfl rfl (exec_assign _ rfl (.slice none 0 0) rfl) ?_
  go_frame
  refine wpList_nil ?_
  go_upto_region 2 with (fail)
  refine wp_region_lit ?_
  refine ls_ex (some 7) (.pointer (some ⟨w.heap.size, 4, none⟩)) rfl rfl (exec_fieldAddr 31 _ 4 rfl _ (by kernel_rfl)) ?_
  go_frame
  refine ls_ex (some 8) (.slice (some ⟨bB, oB, none⟩) N c) rfl rfl (exec_load_one 22 _ rfl w.heap.size 4 rfl (.slice (some ⟨bB, oB, none⟩) N c) _ Try.underlying22 rfl (hz5.at_ 4)) ?_
  go_frame
  refine ls_ex (some 9) (.int .i64 N) rfl rfl (exec_len _ 22 2 rfl ((some ⟨bB, oB, none⟩)) N c rfl Try.underlying22) ?_
  go_frame
  refine ls_ex (some 10) (.int .i64 0) rfl rfl (exec_move _ rfl (.int .i64 0) rfl) ?_
  go_frame
  refine wpList_nil ?_
  go_wp2_with fail
  go_loopw [3, 10] (fun s3 s10 wr => ∃ (t : Nat) (v : Value), t ≤ N ∧ s10 = .int .i64 t ∧ v = s3 ∧ (plL b d xs (t)).length ≤ 30 ∧ Below w.heap.size w wr ∧ At wr w.heap.size (.cells #[.int .i64 p, .int .i64 a, .int .i64 b, .int .i64 d, .slice (some ⟨bB, oB, none⟩) N c] 31 (0, 0)) ∧ At wr Wz2.heap.size (.cells #[.int .i64 0, .int .i64 0, .int .i64 0, .int .i64 0, .slice none 0 0] 28 (0, 0)) ∧ Own wr w.heap.size v (plL b d xs (t))) (fun _ s10 _ => N - (intOf s10).toNat)
  case atStart => exact ⟨0, _, by omega, rfl, rfl, by simp [plL], hB, hz5, hz11, Own.nil _ _⟩
  case round =>
    clear hB hz5 hz11
    obtain ⟨t, v, ht, rfl, rfl, hl30, hB, h1, h2, ho⟩ := hrel
    by_cases hlt : t < N
    · by_cases hx0 : xs[t]?.getD 0 = 0
      · obtain ⟨X, hXg⟩ : ∃ z9, xs[t]? = some z9 := ⟨_, List.getElem?_eq_getElem (by rw [HXl.out]; exact hlt)⟩
        have hXb := inB_of HNb.out hXg
        have HXg := Lib.hid hXg
        have hxX : xs[t]?.getD 0 = X := by rw [hXg]; rfl
        have hX0 : X = 0 := by rw [← hxX]; exact hx0
        have HP : Hid (plL b d xs (t + 1) = plL b d xs (t)) := Lib.hid (plL_zero hXg hx0)
        clear hXg
        go_upto_region 3 with (fail)
        refine wp_region_lit ?_
        refine ls_ex (some 11) (.bool true) rfl rfl (exec_lss _ _ _ _ rfl t N rfl rfl true (decide_eq_true (by omega))) ?_
        go_frame
        refine wpList_nil ?_
        go_upto_region 4 with (fail)
        refine wp_region_lit ?_
        refine ls_ex (some 12) (.int .i64 t) rfl rfl (exec_move _ rfl (.int .i64 t) rfl) ?_
        go_frame
        refine ls_ex (some 13) (.pointer (some ⟨bB, oB + t * 1, none⟩)) rfl rfl (exec_index_slice _ 2 _ _ rfl bB oB N c t 1 rfl rfl Try.underlying22 (by kernel_rfl) hlt) ?_
        go_frame
        refine ls_ex (some 14) (.int .i64 X) rfl rfl (exec_load_one 2 _ rfl bB (oB + t * 1) rfl (.int .i64 X) _ Try.underlying2 rfl (RdI.c1m (hX.keep hB) HXg.out)) ?_
        go_frame
        refine ls_ex (some 4) (.int .i64 t) rfl rfl (exec_assign _ rfl (.int .i64 t) rfl) ?_
        go_frame
        refine ls_ex (some 5) (.int .i64 X) rfl rfl (exec_assign _ rfl (.int .i64 X) rfl) ?_
        go_frame
        refine wpList_nil ?_
        go_upto_region 5 with (fail)
        refine wp_region_lit ?_
        refine ls_ex (some 15) (.int .i64 X) rfl rfl (exec_move _ rfl (.int .i64 X) rfl) ?_
        go_frame
        refine ls_ex (some 16) (.bool true) rfl rfl (exec_eql _ _ _ _ rfl X 0 rfl rfl true (by rw [hX0]; rfl)) ?_
        go_frame
        refine wpList_nil ?_
        go_upto_region 8 with (fail)
        refine wp_region_lit ?_
        refine ls_ex (some 46) (.int .i64 (t + 1)) rfl rfl (exec_add _ _ _ _ rfl t 1 (t + 1) rfl rfl (IntWalk.i64_in _ (by omega))) ?_
        go_frame
        refine ls_ex (some 10) (.int .i64 (t + 1)) rfl rfl (exec_move _ rfl (.int .i64 (t + 1)) rfl) ?_
        go_frame
        refine wpList_nil ?_
        go_wp2_with fail
        go_roundw
        case rel => exact ⟨t + 1, _, by omega, by go_num, rfl, by rw [HP.out]; exact hl30, hB, h1, h2, by rw [HP.out]; exact ho⟩
        case measure => simp [intOf]; omega
      · by_cases hfull : (plL b d xs (t)).length = 30
        · exact absurd (plCode_full hs9.out (List.getElem?_eq_getElem (by rw [HXl.out]; exact hlt)) hx0 (by omega) (by rw [HXl.out]; exact hlt)) (by rw [HC.out]; decide)
        · obtain ⟨X, hXg⟩ : ∃ z9, xs[t]? = some z9 := ⟨_, List.getElem?_eq_getElem (by rw [HXl.out]; exact hlt)⟩
          have hXb := inB_of HNb.out hXg
          have HXg := Lib.hid hXg
          have hxX : xs[t]?.getD 0 = X := by rw [hXg]; rfl
          have hXn : X ≠ 0 := by rw [← hxX]; exact hx0
          obtain ⟨L, hL⟩ : ∃ z9, (plL b d xs (t)).length = z9 := ⟨_, rfl⟩
          rw [hL] at hl30 hfull
          obtain ⟨A9, c9, rfl⟩ := Own.rdN2 ho hL
          obtain ⟨M, hM⟩ : ∃ z9 : Nat, b * d = z9 := ⟨_, rfl⟩
          obtain ⟨I, hI⟩ : ∃ z9 : Nat, t / M = z9 := ⟨_, rfl⟩
          obtain ⟨K1, hK1⟩ : ∃ z9 : Nat, t / d = z9 := ⟨_, rfl⟩
          obtain ⟨J, hJ⟩ : ∃ z9 : Nat, K1 % b = z9 := ⟨_, rfl⟩
          obtain ⟨K, hK⟩ : ∃ z9 : Nat, t % d = z9 := ⟨_, rfl⟩
          have hIJK := pl_idx (t := t) (a := a) (b := b) (d := d) (by rw [HN3.out]; exact hlt) hb1 hd1
          rw [hM, hI, hK1, hJ, hK] at hIJK
          have hI9 : I < 9 := by omega
          have hJ9 : J < 9 := by omega
          have hK9 : K < 9 := by omega
          have hMb : 1 ≤ M ∧ M ≤ 81 := by rw [← hM]; exact ⟨Nat.mul_pos hb1 hd1, Nat.le_trans (Nat.mul_le_mul hb0.2 hd0.2) (by decide)⟩
          have hMz : (M : Int) ≠ 0 := by omega
          have hbz : (b : Int) ≠ 0 := by omega
          have hdz : (d : Int) ≠ 0 := by omega
          have HM : Hid (IntKind.i64.wrap ((b : Int) * (d : Int)) = (M : Int)) := Lib.hid (mwM_cast hM (by omega))
          have HI : Hid (IntKind.i64.wrap ((t : Int).tdiv (M : Int)) = (I : Int)) := Lib.hid (tqM_wrap hI (by omega))
          have HK1 : Hid (IntKind.i64.wrap ((t : Int).tdiv (d : Int)) = (K1 : Int)) := Lib.hid (tqM_wrap hK1 (by omega))
          have HJ : Hid ((K1 : Int).tmod (b : Int) = (J : Int)) := Lib.hid (tmM_cast hJ)
          have HK : Hid ((t : Int).tmod (d : Int) = (K : Int)) := Lib.hid (tmM_cast hK)
          obtain ⟨FA, hFA⟩ : ∃ z9, scF p X (unitL I) = z9 := ⟨_, rfl⟩
          have hFAb : Bytes 9 FA := by rw [← hFA]; exact adF_bytes _ _ _ (by omega) (by omega)
          have HFA := Lib.hid hFA
          have HFAb := Lib.hid hFAb
          have hq3 : plP b d X t = cat3 FA (unitL J) (unitL K) := by unfold plP; rw [hM, hI, hK1, hJ, hK, ← hFA]; exact pl_cat hI9 hJ9 hK9 hXb (by omega)
          have HP : Hid (plL b d xs (t) ++ [cat3 FA (unitL J) (unitL K)] = plL b d xs (t + 1)) := Lib.hid (by rw [plL_step hXg hx0, hq3])
          have HL1 : Hid ((plL b d xs (t + 1)).length = L + 1) := Lib.hid (by rw [← HP.out, List.length_append, hL]; rfl)
          have HL := Lib.hid hL
          clear hXg hL hM hI hK1 hJ hK hIJK hFA hFAb hq3
          go_upto_region 3 with (fail)
          refine wp_region_lit ?_
          refine ls_ex (some 11) (.bool true) rfl rfl (exec_lss _ _ _ _ rfl t N rfl rfl true (decide_eq_true (by omega))) ?_
          go_frame
          refine wpList_nil ?_
          go_upto_region 4 with (fail)
          refine wp_region_lit ?_
          refine ls_ex (some 12) (.int .i64 t) rfl rfl (exec_move _ rfl (.int .i64 t) rfl) ?_
          go_frame
          refine ls_ex (some 13) (.pointer (some ⟨bB, oB + t * 1, none⟩)) rfl rfl (exec_index_slice _ 2 _ _ rfl bB oB N c t 1 rfl rfl Try.underlying22 (by kernel_rfl) hlt) ?_
          go_frame
          refine ls_ex (some 14) (.int .i64 X) rfl rfl (exec_load_one 2 _ rfl bB (oB + t * 1) rfl (.int .i64 X) _ Try.underlying2 rfl (RdI.c1m (hX.keep hB) HXg.out)) ?_
          go_frame
          refine ls_ex (some 4) (.int .i64 t) rfl rfl (exec_assign _ rfl (.int .i64 t) rfl) ?_
          go_frame
          refine ls_ex (some 5) (.int .i64 X) rfl rfl (exec_assign _ rfl (.int .i64 X) rfl) ?_
          go_frame
          refine wpList_nil ?_
          go_upto_region 5 with (fail)
          refine wp_region_lit ?_
          refine ls_ex (some 15) (.int .i64 X) rfl rfl (exec_move _ rfl (.int .i64 X) rfl) ?_
          go_frame
          refine ls_ex (some 16) (.bool false) rfl rfl (exec_eql _ _ _ _ rfl X 0 rfl rfl false (beq_eq_false_iff_ne.2 hXn)) ?_
          go_frame
          refine wpList_nil ?_
          go_upto_region 6 with (fail)
          refine wp_region_lit ?_
          refine ls_ex (some 17) (.int .i64 t) rfl rfl (exec_move _ rfl (.int .i64 t) rfl) ?_
          go_frame
          refine ls_ex (some 6) (.int .i64 t) rfl rfl (exec_assign _ rfl (.int .i64 t) rfl) ?_
          go_frame
          refine wpList_nil ?_
          go_upto_region 7 with (fail)
          refine wp_region_y (zs := []) (S := fun w' => Below w.heap.size w w' ∧ At w' w.heap.size (.cells #[.int .i64 p, .int .i64 a, .int .i64 b, .int .i64 d, .slice (some ⟨bB, oB, none⟩) N c] 31 (0, 0))) (S2 := fun w' => True) (by kernel_rfl) ?_
          change wpAnyY _ _ _ _ _ _ _ _ _ _ (World.drew _)
          generalize hwdz12 : World.drew _ = wdz12
          replace hB : Below w.heap.size w wdz12 := by rw [← hwdz12]; exact hB.drew
          replace h1 : At wdz12 w.heap.size (.cells #[.int .i64 p, .int .i64 a, .int .i64 b, .int .i64 d, .slice (some ⟨bB, oB, none⟩) N c] 31 (0, 0)) := by rw [← hwdz12]; exact h1
          replace h2 : At wdz12 Wz2.heap.size (.cells #[.int .i64 0, .int .i64 0, .int .i64 0, .int .i64 0, .slice none 0 0] 28 (0, 0)) := by rw [← hwdz12]; exact h2
          replace ho : Own wdz12 w.heap.size (.slice A9 L c9) (plL b d xs (t)) := by rw [← hwdz12]; exact ho.drew
          clear hwdz12
          refine y_yield 0 (some 18) (.slice A9 L c9) rfl (by kernel_rfl) (by kernel_rfl) (by kernel_rfl) (fun _ _ _ h => h) rfl rfl ⟨hB, h1⟩ (fun w' h' => exec_move _ rfl (.slice A9 L c9) rfl) ?_
          go_frame
          refine y_yield 1 (some 19) (.pointer (some ⟨w.heap.size, 0, none⟩)) rfl (by kernel_rfl) (by kernel_rfl) (by kernel_rfl) (fun _ _ _ h => h) rfl rfl ⟨hB, h1⟩ (fun w' h' => exec_fieldAddr 31 _ 0 rfl _ (by kernel_rfl)) ?_
          go_frame
          refine y_yield 2 (some 20) (.int .i64 p) rfl (by kernel_rfl) (by kernel_rfl) (by kernel_rfl) (fun _ _ _ h => h) rfl rfl ⟨hB, h1⟩ (fun w' h' => exec_load_one 2 _ rfl w.heap.size 0 rfl (.int .i64 p) _ Try.underlying2 rfl (h'.2.at_ 0)) ?_
          go_frame
          refine y_yield 3 (some 21) (.int .i64 X) rfl (by kernel_rfl) (by kernel_rfl) (by kernel_rfl) (fun _ _ _ h => h) rfl rfl ⟨hB, h1⟩ (fun w' h' => exec_move _ rfl (.int .i64 X) rfl) ?_
          go_frame
          refine y_yield 4 (some 22) (.int .i64 t) rfl (by kernel_rfl) (by kernel_rfl) (by kernel_rfl) (fun _ _ _ h => h) rfl rfl ⟨hB, h1⟩ (fun w' h' => exec_move _ rfl (.int .i64 t) rfl) ?_
          go_frame
          refine y_yield 5 (some 23) (.pointer (some ⟨w.heap.size, 2, none⟩)) rfl (by kernel_rfl) (by kernel_rfl) (by kernel_rfl) (fun _ _ _ h => h) rfl rfl ⟨hB, h1⟩ (fun w' h' => exec_fieldAddr 31 _ 2 rfl _ (by kernel_rfl)) ?_
          go_frame
          refine y_yield 6 (some 24) (.int .i64 b) rfl (by kernel_rfl) (by kernel_rfl) (by kernel_rfl) (fun _ _ _ h => h) rfl rfl ⟨hB, h1⟩ (fun w' h' => exec_load_one 2 _ rfl w.heap.size 2 rfl (.int .i64 b) _ Try.underlying2 rfl (h'.2.at_ 2)) ?_
          go_frame
          refine y_yield 7 (some 25) (.pointer (some ⟨w.heap.size, 3, none⟩)) rfl (by kernel_rfl) (by kernel_rfl) (by kernel_rfl) (fun _ _ _ h => h) rfl rfl ⟨hB, h1⟩ (fun w' h' => exec_fieldAddr 31 _ 3 rfl _ (by kernel_rfl)) ?_
          go_frame
          refine y_yield 8 (some 26) (.int .i64 d) rfl (by kernel_rfl) (by kernel_rfl) (by kernel_rfl) (fun _ _ _ h => h) rfl rfl ⟨hB, h1⟩ (fun w' h' => exec_load_one 2 _ rfl w.heap.size 3 rfl (.int .i64 d) _ Try.underlying2 rfl (h'.2.at_ 3)) ?_
          go_frame
          refine y_yield 9 (some 27) (.int .i64 M) rfl (by kernel_rfl) (by kernel_rfl) (by kernel_rfl) (fun _ _ _ h => h) rfl rfl ⟨hB, h1⟩ (fun w' h' => exec_mul _ _ _ _ rfl b d M rfl rfl HM.out) ?_
          go_frame
          refine y_yield 10 (some 28) (.int .i64 I) rfl (by kernel_rfl) (by kernel_rfl) (by kernel_rfl) (fun _ _ _ h => h) rfl rfl ⟨hB, h1⟩ (fun w' h' => exec_quo _ _ _ _ rfl t M I rfl rfl hMz HI.out) ?_
          go_frame
          refine y_yield 13 (some 31) (.int .i64 t) rfl (by kernel_rfl) (by kernel_rfl) (by kernel_rfl) (fun _ _ _ h => h) rfl rfl ⟨hB, h1⟩ (fun w' h' => exec_move _ rfl (.int .i64 t) rfl) ?_
          go_frame
          refine y_yield 14 (some 32) (.pointer (some ⟨w.heap.size, 3, none⟩)) rfl (by kernel_rfl) (by kernel_rfl) (by kernel_rfl) (fun _ _ _ h => h) rfl rfl ⟨hB, h1⟩ (fun w' h' => exec_fieldAddr 31 _ 3 rfl _ (by kernel_rfl)) ?_
          go_frame
          refine y_yield 15 (some 33) (.int .i64 d) rfl (by kernel_rfl) (by kernel_rfl) (by kernel_rfl) (fun _ _ _ h => h) rfl rfl ⟨hB, h1⟩ (fun w' h' => exec_load_one 2 _ rfl w.heap.size 3 rfl (.int .i64 d) _ Try.underlying2 rfl (h'.2.at_ 3)) ?_
          go_frame
          refine y_yield 16 (some 34) (.int .i64 K1) rfl (by kernel_rfl) (by kernel_rfl) (by kernel_rfl) (fun _ _ _ h => h) rfl rfl ⟨hB, h1⟩ (fun w' h' => exec_quo _ _ _ _ rfl t d K1 rfl rfl hdz HK1.out) ?_
          go_frame
          refine y_yield 17 (some 35) (.pointer (some ⟨w.heap.size, 2, none⟩)) rfl (by kernel_rfl) (by kernel_rfl) (by kernel_rfl) (fun _ _ _ h => h) rfl rfl ⟨hB, h1⟩ (fun w' h' => exec_fieldAddr 31 _ 2 rfl _ (by kernel_rfl)) ?_
          go_frame
          refine y_yield 18 (some 36) (.int .i64 b) rfl (by kernel_rfl) (by kernel_rfl) (by kernel_rfl) (fun _ _ _ h => h) rfl rfl ⟨hB, h1⟩ (fun w' h' => exec_load_one 2 _ rfl w.heap.size 2 rfl (.int .i64 b) _ Try.underlying2 rfl (h'.2.at_ 2)) ?_
          go_frame
          refine y_yield 19 (some 37) (.int .i64 J) rfl (by kernel_rfl) (by kernel_rfl) (by kernel_rfl) (fun _ _ _ h => h) rfl rfl ⟨hB, h1⟩ (fun w' h' => exec_rem _ _ _ _ rfl K1 b J rfl rfl hbz HJ.out) ?_
          go_frame
          refine y_yield 21 (some 39) (.int .i64 t) rfl (by kernel_rfl) (by kernel_rfl) (by kernel_rfl) (fun _ _ _ h => h) rfl rfl ⟨hB, h1⟩ (fun w' h' => exec_move _ rfl (.int .i64 t) rfl) ?_
          go_frame
          refine y_yield 22 (some 40) (.pointer (some ⟨w.heap.size, 3, none⟩)) rfl (by kernel_rfl) (by kernel_rfl) (by kernel_rfl) (fun _ _ _ h => h) rfl rfl ⟨hB, h1⟩ (fun w' h' => exec_fieldAddr 31 _ 3 rfl _ (by kernel_rfl)) ?_
          go_frame
          refine y_yield 23 (some 41) (.int .i64 d) rfl (by kernel_rfl) (by kernel_rfl) (by kernel_rfl) (fun _ _ _ h => h) rfl rfl ⟨hB, h1⟩ (fun w' h' => exec_load_one 2 _ rfl w.heap.size 3 rfl (.int .i64 d) _ Try.underlying2 rfl (h'.2.at_ 3)) ?_
          go_frame
          refine y_yield 24 (some 42) (.int .i64 K) rfl (by kernel_rfl) (by kernel_rfl) (by kernel_rfl) (fun _ _ _ h => h) rfl rfl ⟨hB, h1⟩ (fun w' h' => exec_rem _ _ _ _ rfl t d K rfl rfl hdz HK.out) ?_
          go_frame
          refine y_oper 11 (by kernel_rfl) rfl rfl (fun K' hK' => ?_)
          have lz15 := hB.size
          have lz16 := h1.lt
          have lz17 := h2.lt
          refine wp_call1 (some 29) rfl 62 _ _ rfl (fun args w => by kernel_rfl) _ rfl _ (unitForm_c I hI9 _) (fun e Wz13 h => ?_)
          obtain ⟨rfl, bz14⟩ := h
          replace hB := below_after hB bz14
          replace h1 := h1.after bz14
          replace h2 := h2.after bz14
          replace ho := ho.below bz14
          clear bz14
          refine ⟨_, rfl, ?_⟩
          refine hK' _ _ ⟨hB, h1⟩ (fun _ => trivial) ?_
          clear hK' K'
          go_frame
          refine y_oper 12 (by kernel_rfl) rfl rfl (fun K' hK' => ?_)
          have lz20 := hB.size
          have lz21 := h1.lt
          have lz22 := h2.lt
          refine wp_call3 (some 30) rfl 61 _ _ _ _ rfl (fun args w => by kernel_rfl) _ _ _ rfl rfl rfl _ (multipliedBy_c p X (unitL I) (unitL_bytes hI9) _ (by omega) (by omega) (by omega) (by omega)) (fun e Wz18 h => ?_)
          obtain ⟨rfl, bz19⟩ := h
          replace hB := below_after hB bz19
          replace h1 := h1.after bz19
          replace h2 := h2.after bz19
          replace ho := ho.below bz19
          rw [HFA.out]
          clear bz19
          refine ⟨_, rfl, ?_⟩
          refine hK' _ _ ⟨hB, h1⟩ (fun _ => trivial) ?_
          clear hK' K'
          go_frame
          refine y_oper 20 (by kernel_rfl) rfl rfl (fun K' hK' => ?_)
          have lz25 := hB.size
          have lz26 := h1.lt
          have lz27 := h2.lt
          refine wp_call1 (some 38) rfl 62 _ _ rfl (fun args w => by kernel_rfl) _ rfl _ (unitForm_c J hJ9 _) (fun e Wz23 h => ?_)
          obtain ⟨rfl, bz24⟩ := h
          replace hB := below_after hB bz24
          replace h1 := h1.after bz24
          replace h2 := h2.after bz24
          replace ho := ho.below bz24
          clear bz24
          refine ⟨_, rfl, ?_⟩
          refine hK' _ _ ⟨hB, h1⟩ (fun _ => trivial) ?_
          clear hK' K'
          go_frame
          refine y_oper 25 (by kernel_rfl) rfl rfl (fun K' hK' => ?_)
          have lz30 := hB.size
          have lz31 := h1.lt
          have lz32 := h2.lt
          refine wp_call1 (some 43) rfl 62 _ _ rfl (fun args w => by kernel_rfl) _ rfl _ (unitForm_c K hK9 _) (fun e Wz28 h => ?_)
          obtain ⟨rfl, bz29⟩ := h
          replace hB := below_after hB bz29
          replace h1 := h1.after bz29
          replace h2 := h2.after bz29
          replace ho := ho.below bz29
          clear bz29
          refine ⟨_, rfl, ?_⟩
          refine hK' _ _ ⟨hB, h1⟩ (fun _ => trivial) ?_
          clear hK' K'
          go_frame
          refine y_yield 26 (some 44) (.agg (u8s (cat3 FA (unitL J) (unitL K)))) rfl (by kernel_rfl) (by kernel_rfl) (by kernel_rfl) (fun _ _ _ h => h) rfl rfl ⟨hB, h1⟩ (fun w' h' => exec_prodC _ _ _ rfl (FA) (unitL J) (unitL K) rfl rfl rfl HFAb.out.len (unitL_bytes hJ9).len (unitL_bytes hK9).len) ?_
          go_frame
          refine y_oper 27 (by kernel_rfl) rfl rfl (fun K' hK' => ?_)
          have lz36 := hB.size
          have lz37 := h1.lt
          have lz38 := h2.lt
          refine wp_call2 (some 45) rfl 60 _ _ _ rfl (fun args w => by kernel_rfl) _ _ rfl rfl _ (withOneMore_c A9 L c9 (plL b d xs (t)) (cat3 FA (unitL J) (unitL K)) _ ho HL.out (bytes3 HFAb.out (unitL_bytes hJ9) (unitL_bytes hK9)) (by omega) (by omega)) (fun e Wz33 h => ?_)
          obtain ⟨v8, rfl, noz35, grz34⟩ := h
          rw [HP.out] at noz35
          obtain ⟨A8, c8, rfl⟩ := Own.rdN2 noz35 (n := L + 1) HL1.out
          replace hB := below_grown hB grz34 ho (by omega)
          replace h1 := h1.grown grz34 (ho.off h1 (by decide))
          replace h2 := h2.grown grz34 (ho.off h2 (by decide))
          replace ho := noz35
          refine ⟨_, rfl, ?_⟩
          refine hK' _ _ ⟨hB, h1⟩ (fun _ => trivial) ?_
          clear hK' K' grz34
          go_frame
          refine y_oper 28 (by kernel_rfl) rfl rfl (fun K' hK' => ?_)
          refine wp_exec (some 3) rfl (.slice A8 (L + 1) c8) (exec_assign _ rfl (.slice A8 (L + 1) c8) rfl) ?_
          refine hK' _ _ ⟨hB, h1⟩ (fun _ => trivial) ?_
          clear hK' K'
          go_frame
          refine y_done (by kernel_rfl) ?_ _
          go_upto_region 8 with (fail)
          refine wp_region_lit ?_
          refine ls_ex (some 46) (.int .i64 (t + 1)) rfl rfl (exec_add _ _ _ _ rfl t 1 (t + 1) rfl rfl (IntWalk.i64_in _ (by omega))) ?_
          go_frame
          refine ls_ex (some 10) (.int .i64 (t + 1)) rfl rfl (exec_move _ rfl (.int .i64 (t + 1)) rfl) ?_
          go_frame
          refine wpList_nil ?_
          go_wp2_with fail
          go_roundw
          case rel => exact ⟨t + 1, _, by omega, by go_num, rfl, by rw [HL1.out]; omega, hB, h1, h2, ho⟩
          case measure => simp [intOf]; omega
    · have ht9 : t = N := by omega
      have HP : Hid (plL b d xs (t) = plL b d xs (N)) := Lib.hid (by rw [ht9])
      rw [HP.out] at ho hl30
      obtain ⟨L, hL⟩ : ∃ z9, (plL b d xs (N)).length = z9 := ⟨_, rfl⟩
      obtain ⟨A9, c9, rfl⟩ := Own.rdN2 ho hL
      go_upto_region 3 with (fail)
      refine wp_region_lit ?_
      refine ls_ex (some 11) (.bool false) rfl rfl (exec_lss _ _ _ _ rfl t N rfl rfl false (decide_eq_false (by omega))) ?_
      go_frame
      refine wpList_nil ?_
      go_upto_region 9 with (fail)
      refine wp_region_y (zs := [6]) (S := fun w' => Below w.heap.size w w' ∧ At w' w.heap.size (.cells #[.int .i64 p, .int .i64 a, .int .i64 b, .int .i64 d, .slice (some ⟨bB, oB, none⟩) N c] 31 (0, 0))) (S2 := fun w' => True) (by kernel_rfl) ?_
      change wpAnyY _ _ _ _ _ _ _ _ _ _ (World.drew _)
      generalize hwdz39 : World.drew _ = wdz39
      replace hB : Below w.heap.size w wdz39 := by rw [← hwdz39]; exact hB.drew
      replace h1 : At wdz39 w.heap.size (.cells #[.int .i64 p, .int .i64 a, .int .i64 b, .int .i64 d, .slice (some ⟨bB, oB, none⟩) N c] 31 (0, 0)) := by rw [← hwdz39]; exact h1
      replace h2 : At wdz39 Wz2.heap.size (.cells #[.int .i64 0, .int .i64 0, .int .i64 0, .int .i64 0, .slice none 0 0] 28 (0, 0)) := by rw [← hwdz39]; exact h2
      replace ho : Own wdz39 w.heap.size (.slice A9 L c9) (plL b d xs (N)) := by rw [← hwdz39]; exact ho.drew
      clear hwdz39
      refine y_yield 0 (some 47) (.pointer (some ⟨w.heap.size, 0, none⟩)) rfl (by kernel_rfl) (by kernel_rfl) (by kernel_rfl) (fun _ _ _ h => h) rfl rfl ⟨hB, h1⟩ (fun w' h' => exec_fieldAddr 31 _ 0 rfl _ (by kernel_rfl)) ?_
      go_frame
      refine y_yield 1 (some 48) (.int .i64 p) rfl (by kernel_rfl) (by kernel_rfl) (by kernel_rfl) (fun _ _ _ h => h) rfl rfl ⟨hB, h1⟩ (fun w' h' => exec_load_one 2 _ rfl w.heap.size 0 rfl (.int .i64 p) _ Try.underlying2 rfl (h'.2.at_ 0)) ?_
      go_frame
      refine y_yield 2 (some 49) (.agg #[.int .i64 p, .int .i64 a, .int .i64 b, .int .i64 d, .slice (some ⟨bB, oB, none⟩) N c]) rfl (by kernel_rfl) (by kernel_rfl) (by kernel_rfl) (fun _ _ _ h => h) rfl rfl ⟨hB, h1⟩ (fun w' h' => exec_load_all 31 _ rfl w.heap.size rfl _ _ _ h'.2 Try.underlying31 rfl 5 (by kernel_rfl) rfl) ?_
      go_frame
      refine y_yield 4 (some 51) (.slice A9 L c9) rfl (by kernel_rfl) (by kernel_rfl) (by kernel_rfl) (fun _ _ _ h => h) rfl rfl ⟨hB, h1⟩ (fun w' h' => exec_move _ rfl (.slice A9 L c9) rfl) ?_
      go_frame
      refine y_oper 3 (by kernel_rfl) rfl rfl (fun K' hK' => ?_)
      have lz42 := hB.size
      have lz43 := h1.lt
      have lz44 := h2.lt
      refine wp_call1 (some 50) rfl 57 _ _ rfl (fun args w => by kernel_rfl) _ rfl _ (boxOf_c p a b d _ _) (fun e Wz40 h => ?_)
      obtain ⟨rfl, bz41⟩ := h
      replace hB := below_after hB bz41
      replace h1 := h1.after bz41
      replace h2 := h2.after bz41
      replace ho := ho.below bz41
      clear bz41
      refine ⟨_, rfl, ?_⟩
      refine hK' _ _ ⟨hB, h1⟩ (fun _ => trivial) ?_
      clear hK' K'
      go_frame
      refine y_oper 5 (by kernel_rfl) rfl rfl (fun K' hK' => ?_)
      have lz47 := hB.size
      have lz48 := h1.lt
      have lz49 := h2.lt
      refine wp_call3 (some 52) rfl 56 _ _ _ _ rfl (fun args w => by kernel_rfl) _ _ _ rfl rfl rfl _ (methodOf_c p a b d A9 L c9 _) (fun e Wz45 h => ?_)
      obtain ⟨rfl, bz46⟩ := h
      replace hB := below_after hB bz46
      replace h1 := h1.after bz46
      replace h2 := h2.after bz46
      replace ho := ho.below bz46
      clear bz46
      refine ⟨_, rfl, ?_⟩
      refine hK' _ _ ⟨hB, h1⟩ (fun _ => trivial) ?_
      clear hK' K'
      go_frame
      refine y_oper 6 (by kernel_rfl) rfl rfl (fun K' hK' => ?_)
      refine wp_store_all 28 _ _ rfl rfl Wz2.heap.size rfl #[.int .i64 p, .int .i64 a, .int .i64 b, .int .i64 d, .slice A9 L c9] rfl _ _ h2 5 (by kernel_rfl) rfl rfl (one5 _ _ _ _ _ _ _) (fun Wz50 pz51 => ?_)
      replace hB := pz51.below hB (by omega)
      replace h1 := pz51.other h1 (by omega)
      replace ho := ho.put pz51 (ho.off h2 (by decide))
      replace h2 : At Wz50 Wz2.heap.size (.cells #[.int .i64 p, .int .i64 a, .int .i64 b, .int .i64 d, .slice A9 L c9] 28 (0, 0)) := pz51.at_
      refine hK' _ _ ⟨hB, h1⟩ (fun h => absurd (by decide) h) ?_
      clear hK' K' pz51
      refine y_done (by kernel_rfl) ?_ _
      go_wp2_with fail
      refine bodyPost_ret (results_at rfl _ _ Wz2.heap.size _ _ _ rfl h2 Try.underlying28 rfl 5 (by kernel_rfl) rfl) rfl ?_
      exact ⟨_, rfl, ho, hB⟩
set_option maxHeartbeats 12800000 in
theorem plainMethod_no (p : Int) (a b d : Nat) (bB oB c N : Nat) (xs : List Int) (w : World) (hX : RdI w (some ⟨bB, oB, none⟩) xs) (hxl : xs.length = N) (hs : tenB p a b d xs = true) (hc : plCode p a b d xs = 3) :
    Calls Try.prog 34 #[.agg #[.int .i64 p, .int .i64 a, .int .i64 b, .int .i64 d, .slice (some ⟨bB, oB, none⟩) N c]] w (fun e w' => FailsM e ∧ Below w.heap.size w w') := by
  have hB := Below.refl w.heap.size w
  have HC := Lib.hid hc
  clear hc
  have hp5 := prime_le5 (ten_parts hs).1
  have hdm := (ten_parts hs).2
  have ha1 : 1 ≤ a ∧ a ≤ 9 := hdm.1
  have hb0 : 1 ≤ b ∧ b ≤ 9 := hdm.2.1
  have hd0 : 1 ≤ d ∧ d ≤ 9 := hdm.2.2.1
  have hb1 : 0 < b := hb0.1
  have hd1 : 0 < d := hd0.1
  have HN3 : Hid (a * b * d = N) := Lib.hid (by rw [← hxl]; exact hdm.2.2.2.1.symm)
  have HNb := Lib.hid hdm.2.2.2.2
  have hNb : N ≤ 729 := by rw [← HN3.out]; exact Nat.le_trans (Nat.mul_le_mul (Nat.mul_le_mul ha1.2 hb0.2) hd0.2) (by decide)
  have HXl := Lib.hid hxl
  have hs9 := Lib.hid hs
  have Hs := Lib.hid hs
  clear hs hxl hdm
  go_enter Try.func34, Try.ntmps34
  go_upto_region 0 with (fail)
  refine wp_region_lit ?_
  refine ls_op rfl (fun K' hK' => ?_)
  have lz1 := hB.size
  refine wp_new (some 1) rfl (exec_box 31 _ rfl (#[.int .i64 p, .int .i64 a, .int .i64 b, .int .i64 d, .slice (some ⟨bB, oB, none⟩) N c]) rfl) (fun Wz2 nnz3 => ?_)
  have bz4 := nnz3.below (Below.refl _ _) (Nat.le_refl _)
  replace hB := below_after hB bz4
  have hz5 : At Wz2 w.heap.size (.cells #[.int .i64 p, .int .i64 a, .int .i64 b, .int .i64 d, .slice (some ⟨bB, oB, none⟩) N c] 31 (0, 0)) := nnz3.at_
  refine hK' _ _ ?_
  clear hK' K' nnz3 bz4
  go_frame
  refine ls_op rfl (fun K' hK' => ?_)
  have lz6 := hB.size
  have lz7 := hz5.lt
  refine wp_new (some 2) rfl (al_impl_Method rfl) (fun Wz8 nnz9 => ?_)
  have bz10 := nnz9.below (Below.refl _ _) (Nat.le_refl _)
  replace hB := below_after hB bz10
  replace hz5 := hz5.after bz10
  have hz11 : At Wz8 Wz2.heap.size (.cells #[.int .i64 0, .int .i64 0, .int .i64 0, .int .i64 0, .slice none 0 0] 28 (0, 0)) := nnz9.at_
  refine hK' _ _ ?_
  clear hK' K' nnz9 bz10
  go_frame
  refine wpList_nil ?_
  go_upto_region 1 with (fail)
  refine wp_region_lit ?_
  refine ls_ex (some 3) (.slice none 0 0) rfl rfl (exec_assign _ rfl (.slice none 0 0) rfl) ?_
  go_frame
  refine wpList_nil ?_
  go_upto_region 2 with (fail)
  refine wp_region_lit ?_
  refine ls_ex (some 7) (.pointer (some ⟨w.heap.size, 4, none⟩)) rfl rfl (exec_fieldAddr 31 _ 4 rfl _ (by kernel_rfl)) ?_
  go_frame
  refine ls_ex (some 8) (.slice (some ⟨bB, oB, none⟩) N c) rfl rfl (exec_load_one 22 _ rfl w.heap.size 4 rfl (.slice (some ⟨bB, oB, none⟩) N c) _ Try.underlying22 rfl (hz5.at_ 4)) ?_
  go_frame
  refine ls_ex (some 9) (.int .i64 N) rfl rfl (exec_len _ 22 2 rfl ((some ⟨bB, oB, none⟩)) N c rfl Try.underlying22) ?_
  go_frame
  refine ls_ex (some 10) (.int .i64 0) rfl rfl (exec_move _ rfl (.int .i64 0) rfl) ?_
  go_frame
  refine wpList_nil ?_
  go_wp2_with fail
  go_loopw [3, 10] (fun s3 s10 wr => ∃ (t : Nat) (v : Value), t ≤ N ∧ s10 = .int .i64 t ∧ v = s3 ∧ (plL b d xs (t)).length ≤ 30 ∧ Below w.heap.size w wr ∧ At wr w.heap.size (.cells #[.int .i64 p, .int .i64 a, .int .i64 b, .int .i64 d, .slice (some ⟨bB, oB, none⟩) N c] 31 (0, 0)) ∧ At wr Wz2.heap.size (.cells #[.int .i64 0, .int .i64 0, .int .i64 0, .int .i64 0, .slice none 0 0] 28 (0, 0)) ∧ Own wr w.heap.size v (plL b d xs (t))) (fun _ s10 _ => N - (intOf s10).toNat)
  case atStart => exact ⟨0, _, by omega, rfl, rfl, by simp [plL], hB, hz5, hz11, Own.nil _ _⟩
  case round =>
    clear hB hz5 hz11
    obtain ⟨t, v, ht, rfl, rfl, hl30, hB, h1, h2, ho⟩ := hrel
    by_cases hlt : t < N
    · by_cases hx0 : xs[t]?.getD 0 = 0
      · obtain ⟨X, hXg⟩ : ∃ z9, xs[t]? = some z9 := ⟨_, List.getElem?_eq_getElem (by rw [HXl.out]; exact hlt)⟩
        have hXb := inB_of HNb.out hXg
        have HXg := Lib.hid hXg
        have hxX : xs[t]?.getD 0 = X := by rw [hXg]; rfl
        have hX0 : X = 0 := by rw [← hxX]; exact hx0
        have HP : Hid (plL b d xs (t + 1) = plL b d xs (t)) := Lib.hid (plL_zero hXg hx0)
        clear hXg
        go_upto_region 3 with (fail)
        refine wp_region_lit ?_
        refine ls_ex (some 11) (.bool true) rfl rfl (exec_lss _ _ _ _ rfl t N rfl rfl true (decide_eq_true (by omega))) ?_
        go_frame
        refine wpList_nil ?_
        go_upto_region 4 with (fail)
        refine wp_region_lit ?_
        refine ls_ex (some 12) (.int .i64 t) rfl rfl (exec_move _ rfl (.int .i64 t) rfl) ?_
        go_frame
        refine ls_ex (some 13) (.pointer (some ⟨bB, oB + t * 1, none⟩)) rfl rfl (exec_index_slice _ 2 _ _ rfl bB oB N c t 1 rfl rfl Try.underlying22 (by kernel_rfl) hlt) ?_
        go_frame
        refine ls_ex (some 14) (.int .i64 X) rfl rfl (exec_load_one 2 _ rfl bB (oB + t * 1) rfl (.int .i64 X) _ Try.underlying2 rfl (RdI.c1m (hX.keep hB) HXg.out)) ?_
        go_frame
        refine ls_ex (some 4) (.int .i64 t) rfl rfl (exec_assign _ rfl (.int .i64 t) rfl) ?_
        go_frame
        refine ls_ex (some 5) (.int .i64 X) rfl rfl (exec_assign _ rfl (.int .i64 X) rfl) ?_
        go_frame
        refine wpList_nil ?_
        go_upto_region 5 with (fail)
        refine wp_region_lit ?_
        refine ls_ex (some 15) (.int .i64 X) rfl rfl (exec_move _ rfl (.int .i64 X) rfl) ?_
        go_frame
        refine ls_ex (some 16) (.bool true) rfl rfl (exec_eql _ _ _ _ rfl X 0 rfl rfl true (by rw [hX0]; rfl)) ?_
        go_frame
        refine wpList_nil ?_
        go_upto_region 8 with (fail)
        refine wp_region_lit ?_
        refine ls_ex (some 46) (.int .i64 (t + 1)) rfl rfl (exec_add _ _ _ _ rfl t 1 (t + 1) rfl rfl (IntWalk.i64_in _ (by omega))) ?_
        go_frame
        refine ls_ex (some 10) (.int .i64 (t + 1)) rfl rfl (exec_move _ rfl (.int .i64 (t + 1)) rfl) ?_
        go_frame
        refine wpList_nil ?_
        go_wp2_with fail
        go_roundw
        case rel => exact ⟨t + 1, _, by omega, by go_num, rfl, by rw [HP.out]; exact hl30, hB, h1, h2, by rw [HP.out]; exact ho⟩
        case measure => simp [intOf]; omega
      · by_cases hfull : (plL b d xs (t)).length = 30
        · obtain ⟨X, hXg⟩ : ∃ z9, xs[t]? = some z9 := ⟨_, List.getElem?_eq_getElem (by rw [HXl.out]; exact hlt)⟩
          have hXb := inB_of HNb.out hXg
          have HXg := Lib.hid hXg
          have hxX : xs[t]?.getD 0 = X := by rw [hXg]; rfl
          have hXn : X ≠ 0 := by rw [← hxX]; exact hx0
          obtain ⟨L, hL⟩ : ∃ z9, (plL b d xs (t)).length = z9 := ⟨_, rfl⟩
          rw [hL] at hl30 hfull
          obtain ⟨A9, c9, rfl⟩ := Own.rdN2 ho hL
          obtain ⟨M, hM⟩ : ∃ z9 : Nat, b * d = z9 := ⟨_, rfl⟩
          obtain ⟨I, hI⟩ : ∃ z9 : Nat, t / M = z9 := ⟨_, rfl⟩
          obtain ⟨K1, hK1⟩ : ∃ z9 : Nat, t / d = z9 := ⟨_, rfl⟩
          obtain ⟨J, hJ⟩ : ∃ z9 : Nat, K1 % b = z9 := ⟨_, rfl⟩
          obtain ⟨K, hK⟩ : ∃ z9 : Nat, t % d = z9 := ⟨_, rfl⟩
          have hIJK := pl_idx (t := t) (a := a) (b := b) (d := d) (by rw [HN3.out]; exact hlt) hb1 hd1
          rw [hM, hI, hK1, hJ, hK] at hIJK
          have hI9 : I < 9 := by omega
          have hJ9 : J < 9 := by omega
          have hK9 : K < 9 := by omega
          have hMb : 1 ≤ M ∧ M ≤ 81 := by rw [← hM]; exact ⟨Nat.mul_pos hb1 hd1, Nat.le_trans (Nat.mul_le_mul hb0.2 hd0.2) (by decide)⟩
          have hMz : (M : Int) ≠ 0 := by omega
          have hbz : (b : Int) ≠ 0 := by omega
          have hdz : (d : Int) ≠ 0 := by omega
          have HM : Hid (IntKind.i64.wrap ((b : Int) * (d : Int)) = (M : Int)) := Lib.hid (mwM_cast hM (by omega))
          have HI : Hid (IntKind.i64.wrap ((t : Int).tdiv (M : Int)) = (I : Int)) := Lib.hid (tqM_wrap hI (by omega))
          have HK1 : Hid (IntKind.i64.wrap ((t : Int).tdiv (d : Int)) = (K1 : Int)) := Lib.hid (tqM_wrap hK1 (by omega))
          have HJ : Hid ((K1 : Int).tmod (b : Int) = (J : Int)) := Lib.hid (tmM_cast hJ)
          have HK : Hid ((t : Int).tmod (d : Int) = (K : Int)) := Lib.hid (tmM_cast hK)
          obtain ⟨FA, hFA⟩ : ∃ z9, scF p X (unitL I) = z9 := ⟨_, rfl⟩
          have hFAb : Bytes 9 FA := by rw [← hFA]; exact adF_bytes _ _ _ (by omega) (by omega)
          have HFA := Lib.hid hFA
          have HFAb := Lib.hid hFAb
          have hq3 : plP b d X t = cat3 FA (unitL J) (unitL K) := by unfold plP; rw [hM, hI, hK1, hJ, hK, ← hFA]; exact pl_cat hI9 hJ9 hK9 hXb (by omega)
          have HL := Lib.hid hL
          clear hXg hL hM hI hK1 hJ hK hIJK hFA hFAb hq3
          go_upto_region 3 with (fail)
          refine wp_region_lit ?_
          refine ls_ex (some 11) (.bool true) rfl rfl (exec_lss _ _ _ _ rfl t N rfl rfl true (decide_eq_true (by omega))) ?_
          go_frame
          refine wpList_nil ?_
          go_upto_region 4 with (fail)
          refine wp_region_lit ?_
          refine ls_ex (some 12) (.int .i64 t) rfl rfl (exec_move _ rfl (.int .i64 t) rfl) ?_
          go_frame
          refine ls_ex (some 13) (.pointer (some ⟨bB, oB + t * 1, none⟩)) rfl rfl (exec_index_slice _ 2 _ _ rfl bB oB N c t 1 rfl rfl Try.underlying22 (by kernel_rfl) hlt) ?_
          go_frame
          refine ls_ex (some 14) (.int .i64 X) rfl rfl (exec_load_one 2 _ rfl bB (oB + t * 1) rfl (.int .i64 X) _ Try.underlying2 rfl (RdI.c1m (hX.keep hB) HXg.out)) ?_
          go_frame
          refine ls_ex (some 4) (.int .i64 t) rfl rfl (exec_assign _ rfl (.int .i64 t) rfl) ?_
          go_frame
          refine ls_ex (some 5) (.int .i64 X) rfl rfl (exec_assign _ rfl (.int .i64 X) rfl) ?_
          go_frame
          refine wpList_nil ?_
          go_upto_region 5 with (fail)
          refine wp_region_lit ?_
          refine ls_ex (some 15) (.int .i64 X) rfl rfl (exec_move _ rfl (.int .i64 X) rfl) ?_
          go_frame
          refine ls_ex (some 16) (.bool false) rfl rfl (exec_eql _ _ _ _ rfl X 0 rfl rfl false (beq_eq_false_iff_ne.2 hXn)) ?_
          go_frame
          refine wpList_nil ?_
          go_upto_region 6 with (fail)
          refine wp_region_lit ?_
          refine ls_ex (some 17) (.int .i64 t) rfl rfl (exec_move _ rfl (.int .i64 t) rfl) ?_
          go_frame
          refine ls_ex (some 6) (.int .i64 t) rfl rfl (exec_assign _ rfl (.int .i64 t) rfl) ?_
          go_frame
          refine wpList_nil ?_
          go_upto_region 7 with (fail)
          refine wp_region_y (zs := []) (S := fun w' => Below w.heap.size w w' ∧ At w' w.heap.size (.cells #[.int .i64 p, .int .i64 a, .int .i64 b, .int .i64 d, .slice (some ⟨bB, oB, none⟩) N c] 31 (0, 0))) (S2 := fun w' => True) (by kernel_rfl) ?_
          change wpAnyY _ _ _ _ _ _ _ _ _ _ (World.drew _)
          generalize hwdz12 : World.drew _ = wdz12
          replace hB : Below w.heap.size w wdz12 := by rw [← hwdz12]; exact hB.drew
          replace h1 : At wdz12 w.heap.size (.cells #[.int .i64 p, .int .i64 a, .int .i64 b, .int .i64 d, .slice (some ⟨bB, oB, none⟩) N c] 31 (0, 0)) := by rw [← hwdz12]; exact h1
          replace h2 : At wdz12 Wz2.heap.size (.cells #[.int .i64 0, .int .i64 0, .int .i64 0, .int .i64 0, .slice none 0 0] 28 (0, 0)) := by rw [← hwdz12]; exact h2
          replace ho : Own wdz12 w.heap.size (.slice A9 L c9) (plL b d xs (t)) := by rw [← hwdz12]; exact ho.drew
          clear hwdz12
          refine y_yield 0 (some 18) (.slice A9 L c9) rfl (by kernel_rfl) (by kernel_rfl) (by kernel_rfl) (fun _ _ _ h => h) rfl rfl ⟨hB, h1⟩ (fun w' h' => exec_move _ rfl (.slice A9 L c9) rfl) ?_
          go_frame
          refine y_yield 1 (some 19) (.pointer (some ⟨w.heap.size, 0, none⟩)) rfl (by kernel_rfl) (by kernel_rfl) (by kernel_rfl) (fun _ _ _ h => h) rfl rfl ⟨hB, h1⟩ (fun w' h' => exec_fieldAddr 31 _ 0 rfl _ (by kernel_rfl)) ?_
          go_frame
          refine y_yield 2 (some 20) (.int .i64 p) rfl (by kernel_rfl) (by kernel_rfl) (by kernel_rfl) (fun _ _ _ h => h) rfl rfl ⟨hB, h1⟩ (fun w' h' => exec_load_one 2 _ rfl w.heap.size 0 rfl (.int .i64 p) _ Try.underlying2 rfl (h'.2.at_ 0)) ?_
          go_frame
          refine y_yield 3 (some 21) (.int .i64 X) rfl (by kernel_rfl) (by kernel_rfl) (by kernel_rfl) (fun _ _ _ h => h) rfl rfl ⟨hB, h1⟩ (fun w' h' => exec_move _ rfl (.int .i64 X) rfl) ?_
          go_frame
          refine y_yield 4 (some 22) (.int .i64 t) rfl (by kernel_rfl) (by kernel_rfl) (by kernel_rfl) (fun _ _ _ h => h) rfl rfl ⟨hB, h1⟩ (fun w' h' => exec_move _ rfl (.int .i64 t) rfl) ?_
          go_frame
          refine y_yield 5 (some 23) (.pointer (some ⟨w.heap.size, 2, none⟩)) rfl (by kernel_rfl) (by kernel_rfl) (by kernel_rfl) (fun _ _ _ h => h) rfl rfl ⟨hB, h1⟩ (fun w' h' => exec_fieldAddr 31 _ 2 rfl _ (by kernel_rfl)) ?_
          go_frame
          refine y_yield 6 (some 24) (.int .i64 b) rfl (by kernel_rfl) (by kernel_rfl) (by kernel_rfl) (fun _ _ _ h => h) rfl rfl ⟨hB, h1⟩ (fun w' h' => exec_load_one 2 _ rfl w.heap.size 2 rfl (.int .i64 b) _ Try.underlying2 rfl (h'.2.at_ 2)) ?_
          go_frame
          refine y_yield 7 (some 25) (.pointer (some ⟨w.heap.size, 3, none⟩)) rfl (by kernel_rfl) (by kernel_rfl) (by kernel_rfl) (fun _ _ _ h => h) rfl rfl ⟨hB, h1⟩ (fun w' h' => exec_fieldAddr 31 _ 3 rfl _ (by kernel_rfl)) ?_
          go_frame
          refine y_yield 8 (some 26) (.int .i64 d) rfl (by kernel_rfl) (by kernel_rfl) (by kernel_rfl) (fun _ _ _ h => h) rfl rfl ⟨hB, h1⟩ (fun w' h' => exec_load_one 2 _ rfl w.heap.size 3 rfl (.int .i64 d) _ Try.underlying2 rfl (h'.2.at_ 3)) ?_
          go_frame
          refine y_yield 9 (some 27) (.int .i64 M) rfl (by kernel_rfl) (by kernel_rfl) (by kernel_rfl) (fun _ _ _ h => h) rfl rfl ⟨hB, h1⟩ (fun w' h' => exec_mul _ _ _ _ rfl b d M rfl rfl HM.out) ?_
          go_frame
          refine y_yield 10 (some 28) (.int .i64 I) rfl (by kernel_rfl) (by kernel_rfl) (by kernel_rfl) (fun _ _ _ h => h) rfl rfl ⟨hB, h1⟩ (fun w' h' => exec_quo _ _ _ _ rfl t M I rfl rfl hMz HI.out) ?_
          go_frame
          refine y_yield 13 (some 31) (.int .i64 t) rfl (by kernel_rfl) (by kernel_rfl) (by kernel_rfl) (fun _ _ _ h => h) rfl rfl ⟨hB, h1⟩ (fun w' h' => exec_move _ rfl (.int .i64 t) rfl) ?_
          go_frame
          refine y_yield 14 (some 32) (.pointer (some ⟨w.heap.size, 3, none⟩)) rfl (by kernel_rfl) (by kernel_rfl) (by kernel_rfl) (fun _ _ _ h => h) rfl rfl ⟨hB, h1⟩ (fun w' h' => exec_fieldAddr 31 _ 3 rfl _ (by kernel_rfl)) ?_
          go_frame
          refine y_yield 15 (some 33) (.int .i64 d) rfl (by kernel_rfl) (by kernel_rfl) (by kernel_rfl) (fun _ _ _ h => h) rfl rfl ⟨hB, h1⟩ (fun w' h' => exec_load_one 2 _ rfl w.heap.size 3 rfl (.int .i64 d) _ Try.underlying2 rfl (h'.2.at_ 3)) ?_
          go_frame
          refine y_yield 16 (some 34) (.int .i64 K1) rfl (by kernel_rfl) (by kernel_rfl) (by kernel_rfl) (fun _ _ _ h => h) rfl rfl ⟨hB, h1⟩ (fun w' h' => exec_quo _ _ _ _ rfl t d K1 rfl rfl hdz HK1.out) ?_
          go_frame
          refine y_yield 17 (some 35) (.pointer (some ⟨w.heap.size, 2, none⟩)) rfl (by kernel_rfl) (by kernel_rfl) (by kernel_rfl) (fun _ _ _ h => h) rfl rfl ⟨hB, h1⟩ (fun w' h' => exec_fieldAddr 31 _ 2 rfl _ (by kernel_rfl)) ?_
          go_frame
          refine y_yield 18 (some 36) (.int .i64 b) rfl (by kernel_rfl) (by kernel_rfl) (by kernel_rfl) (fun _ _ _ h => h) rfl rfl ⟨hB, h1⟩ (fun w' h' => exec_load_one 2 _ rfl w.heap.size 2 rfl (.int .i64 b) _ Try.underlying2 rfl (h'.2.at_ 2)) ?_
          go_frame
          refine y_yield 19 (some 37) (.int .i64 J) rfl (by kernel_rfl) (by kernel_rfl) (by kernel_rfl) (fun _ _ _ h => h) rfl rfl ⟨hB, h1⟩ (fun w' h' => exec_rem _ _ _ _ rfl K1 b J rfl rfl hbz HJ.out) ?_
          go_frame
          refine y_yield 21 (some 39) (.int .i64 t) rfl (by kernel_rfl) (by kernel_rfl) (by kernel_rfl) (fun _ _ _ h => h) rfl rfl ⟨hB, h1⟩ (fun w' h' => exec_move _ rfl (.int .i64 t) rfl) ?_
          go_frame
          refine y_yield 22 (some 40) (.pointer (some ⟨w.heap.size, 3, none⟩)) rfl (by kernel_rfl) (by kernel_rfl) (by kernel_rfl) (fun _ _ _ h => h) rfl rfl ⟨hB, h1⟩ (fun w' h' => exec_fieldAddr 31 _ 3 rfl _ (by kernel_rfl)) ?_
          go_frame
          refine y_yield 23 (some 41) (.int .i64 d) rfl (by kernel_rfl) (by kernel_rfl) (by kernel_rfl) (fun _ _ _ h => h) rfl rfl ⟨hB, h1⟩ (fun w' h' => exec_load_one 2 _ rfl w.heap.size 3 rfl (.int .i64 d) _ Try.underlying2 rfl (h'.2.at_ 3)) ?_
          go_frame
          refine y_yield 24 (some 42) (.int .i64 K) rfl (by kernel_rfl) (by kernel_rfl) (by kernel_rfl) (fun _ _ _ h => h) rfl rfl ⟨hB, h1⟩ (fun w' h' => exec_rem _ _ _ _ rfl t d K rfl rfl hdz HK.out) ?_
          go_frame
          refine y_oper 11 (by kernel_rfl) rfl rfl (fun K' hK' => ?_)
          have lz15 := hB.size
          have lz16 := h1.lt
          have lz17 := h2.lt
          refine wp_call1 (some 29) rfl 62 _ _ rfl (fun args w => by kernel_rfl) _ rfl _ (unitForm_c I hI9 _) (fun e Wz13 h => ?_)
          obtain ⟨rfl, bz14⟩ := h
          replace hB := below_after hB bz14
          replace h1 := h1.after bz14
          replace h2 := h2.after bz14
          replace ho := ho.below bz14
          clear bz14
          refine ⟨_, rfl, ?_⟩
          refine hK' _ _ ⟨hB, h1⟩ (fun _ => trivial) ?_
          clear hK' K'
          go_frame
          refine y_oper 12 (by kernel_rfl) rfl rfl (fun K' hK' => ?_)
          have lz20 := hB.size
          have lz21 := h1.lt
          have lz22 := h2.lt
          refine wp_call3 (some 30) rfl 61 _ _ _ _ rfl (fun args w => by kernel_rfl) _ _ _ rfl rfl rfl _ (multipliedBy_c p X (unitL I) (unitL_bytes hI9) _ (by omega) (by omega) (by omega) (by omega)) (fun e Wz18 h => ?_)
          obtain ⟨rfl, bz19⟩ := h
          replace hB := below_after hB bz19
          replace h1 := h1.after bz19
          replace h2 := h2.after bz19
          replace ho := ho.below bz19
          rw [HFA.out]
          clear bz19
          refine ⟨_, rfl, ?_⟩
          refine hK' _ _ ⟨hB, h1⟩ (fun _ => trivial) ?_
          clear hK' K'
          go_frame
          refine y_oper 20 (by kernel_rfl) rfl rfl (fun K' hK' => ?_)
          have lz25 := hB.size
          have lz26 := h1.lt
          have lz27 := h2.lt
          refine wp_call1 (some 38) rfl 62 _ _ rfl (fun args w => by kernel_rfl) _ rfl _ (unitForm_c J hJ9 _) (fun e Wz23 h => ?_)
          obtain ⟨rfl, bz24⟩ := h
          replace hB := below_after hB bz24
          replace h1 := h1.after bz24
          replace h2 := h2.after bz24
          replace ho := ho.below bz24
          clear bz24
          refine ⟨_, rfl, ?_⟩
          refine hK' _ _ ⟨hB, h1⟩ (fun _ => trivial) ?_
          clear hK' K'
          go_frame
          refine y_oper 25 (by kernel_rfl) rfl rfl (fun K' hK' => ?_)
          have lz30 := hB.size
          have lz31 := h1.lt
          have lz32 := h2.lt
          refine wp_call1 (some 43) rfl 62 _ _ rfl (fun args w => by kernel_rfl) _ rfl _ (unitForm_c K hK9 _) (fun e Wz28 h => ?_)
          obtain ⟨rfl, bz29⟩ := h
          replace hB := below_after hB bz29
          replace h1 := h1.after bz29
          replace h2 := h2.after bz29
          replace ho := ho.below bz29
          clear bz29
          refine ⟨_, rfl, ?_⟩
          refine hK' _ _ ⟨hB, h1⟩ (fun _ => trivial) ?_
          clear hK' K'
          go_frame
          refine y_yield 26 (some 44) (.agg (u8s (cat3 FA (unitL J) (unitL K)))) rfl (by kernel_rfl) (by kernel_rfl) (by kernel_rfl) (fun _ _ _ h => h) rfl rfl ⟨hB, h1⟩ (fun w' h' => exec_prodC _ _ _ rfl (FA) (unitL J) (unitL K) rfl rfl rfl HFAb.out.len (unitL_bytes hJ9).len (unitL_bytes hK9).len) ?_
          go_frame
          refine y_oper 27 (by kernel_rfl) rfl rfl (fun K' hK' => ?_)
          have lz35 := hB.size
          have lz36 := h1.lt
          have lz37 := h2.lt
          refine wp_call2_p 60 _ _ _ rfl (fun args w => by kernel_rfl) _ _ rfl rfl _ (withOneMore_no A9 L c9 (cat3 FA (unitL J) (unitL K)) _ hfull) (fun e Wz33 h => ?_)
          obtain ⟨hf, bz34⟩ := h
          replace hB := below_after hB bz34
          replace h1 := h1.after bz34
          replace h2 := h2.after bz34
          replace ho := ho.below bz34
          refine ⟨_, hf, ?_⟩
          exact ⟨rfl, rfl, hB⟩
        · obtain ⟨X, hXg⟩ : ∃ z9, xs[t]? = some z9 := ⟨_, List.getElem?_eq_getElem (by rw [HXl.out]; exact hlt)⟩
          have hXb := inB_of HNb.out hXg
          have HXg := Lib.hid hXg
          have hxX : xs[t]?.getD 0 = X := by rw [hXg]; rfl
          have hXn : X ≠ 0 := by rw [← hxX]; exact hx0
          obtain ⟨L, hL⟩ : ∃ z9, (plL b d xs (t)).length = z9 := ⟨_, rfl⟩
          rw [hL] at hl30 hfull
          obtain ⟨A9, c9, rfl⟩ := Own.rdN2 ho hL
          obtain ⟨M, hM⟩ : ∃ z9 : Nat, b * d = z9 := ⟨_, rfl⟩
          obtain ⟨I, hI⟩ : ∃ z9 : Nat, t / M = z9 := ⟨_, rfl⟩
          obtain ⟨K1, hK1⟩ : ∃ z9 : Nat, t / d = z9 := ⟨_, rfl⟩
          obtain ⟨J, hJ⟩ : ∃ z9 : Nat, K1 % b = z9 := ⟨_, rfl⟩
          obtain ⟨K, hK⟩ : ∃ z9 : Nat, t % d = z9 := ⟨_, rfl⟩
          have hIJK := pl_idx (t := t) (a := a) (b := b) (d := d) (by rw [HN3.out]; exact hlt) hb1 hd1
          rw [hM, hI, hK1, hJ, hK] at hIJK
          have hI9 : I < 9 := by omega
          have hJ9 : J < 9 := by omega
          have hK9 : K < 9 := by omega
          have hMb : 1 ≤ M ∧ M ≤ 81 := by rw [← hM]; exact ⟨Nat.mul_pos hb1 hd1, Nat.le_trans (Nat.mul_le_mul hb0.2 hd0.2) (by decide)⟩
          have hMz : (M : Int) ≠ 0 := by omega
          have hbz : (b : Int) ≠ 0 := by omega
          have hdz : (d : Int) ≠ 0 := by omega
          have HM : Hid (IntKind.i64.wrap ((b : Int) * (d : Int)) = (M : Int)) := Lib.hid (mwM_cast hM (by omega))
          have HI : Hid (IntKind.i64.wrap ((t : Int).tdiv (M : Int)) = (I : Int)) := Lib.hid (tqM_wrap hI (by omega))
          have HK1 : Hid (IntKind.i64.wrap ((t : Int).tdiv (d : Int)) = (K1 : Int)) := Lib.hid (tqM_wrap hK1 (by omega))
          have HJ : Hid ((K1 : Int).tmod (b : Int) = (J : Int)) := Lib.hid (tmM_cast hJ)
          have HK : Hid ((t : Int).tmod (d : Int) = (K : Int)) := Lib.hid (tmM_cast hK)
          obtain ⟨FA, hFA⟩ : ∃ z9, scF p X (unitL I) = z9 := ⟨_, rfl⟩
          have hFAb : Bytes 9 FA := by rw [← hFA]; exact adF_bytes _ _ _ (by omega) (by omega)
          have HFA := Lib.hid hFA
          have HFAb := Lib.hid hFAb
          have hq3 : plP b d X t = cat3 FA (unitL J) (unitL K) := by unfold plP; rw [hM, hI, hK1, hJ, hK, ← hFA]; exact pl_cat hI9 hJ9 hK9 hXb (by omega)
          have HP : Hid (plL b d xs (t) ++ [cat3 FA (unitL J) (unitL K)] = plL b d xs (t + 1)) := Lib.hid (by rw [plL_step hXg hx0, hq3])
          have HL1 : Hid ((plL b d xs (t + 1)).length = L + 1) := Lib.hid (by rw [← HP.out, List.length_append, hL]; rfl)
          have HL := Lib.hid hL
          clear hXg hL hM hI hK1 hJ hK hIJK hFA hFAb hq3
          go_upto_region 3 with (fail)
          refine wp_region_lit ?_
          refine ls_ex (some 11) (.bool true) rfl rfl (exec_lss _ _ _ _ rfl t N rfl rfl true (decide_eq_true (by omega))) ?_
          go_frame
          refine wpList_nil ?_
          go_upto_region 4 with (fail)
          refine wp_region_lit ?_
          refine ls_ex (some 12) (.int .i64 t) rfl rfl (exec_move _ rfl (.int .i64 t) rfl) ?_
          go_frame
          refine ls_ex (some 13) (.pointer (some ⟨bB, oB + t * 1, none⟩)) rfl rfl (exec_index_slice _ 2 _ _ rfl bB oB N c t 1 rfl rfl Try.underlying22 (by kernel_rfl) hlt) ?_
          go_frame
          refine ls_ex (some 14) (.int .i64 X) rfl rfl (exec_load_one 2 _ rfl bB (oB + t * 1) rfl (.int .i64 X) _ Try.underlying2 rfl (RdI.c1m (hX.keep hB) HXg.out)) ?_
          go_frame
          refine ls_ex (some 4) (.int .i64 t) rfl rfl (exec_assign _ rfl (.int .i64 t) rfl) ?_
          go_frame
          refine ls_ex (some 5) (.int .i64 X) rfl rfl (exec_assign _ rfl (.int .i64 X) rfl) ?_
          go_frame
          refine wpList_nil ?_
          go_upto_region 5 with (fail)
          refine wp_region_lit ?_
          refine ls_ex (some 15) (.int .i64 X) rfl rfl (exec_move _ rfl (.int .i64 X) rfl) ?_
          go_frame
          refine ls_ex (some 16) (.bool false) rfl rfl (exec_eql _ _ _ _ rfl X 0 rfl rfl false (beq_eq_false_iff_ne.2 hXn)) ?_
          go_frame
          refine wpList_nil ?_
          go_upto_region 6 with (fail)
          refine wp_region_lit ?_
          refine ls_ex (some 17) (.int .i64 t) rfl rfl (exec_move _ rfl (.int .i64 t) rfl) ?_
          go_frame
          refine ls_ex (some 6) (.int .i64 t) rfl rfl (exec_assign _ rfl (.int .i64 t) rfl) ?_
          go_frame
          refine wpList_nil ?_
          go_upto_region 7 with (fail)
          refine wp_region_y (zs := []) (S := fun w' => Below w.heap.size w w' ∧ At w' w.heap.size (.cells #[.int .i64 p, .int .i64 a, .int .i64 b, .int .i64 d, .slice (some ⟨bB, oB, none⟩) N c] 31 (0, 0))) (S2 := fun w' => True) (by kernel_rfl) ?_
          change wpAnyY _ _ _ _ _ _ _ _ _ _ (World.drew _)
          generalize hwdz38 : World.drew _ = wdz38
          replace hB : Below w.heap.size w wdz38 := by rw [← hwdz38]; exact hB.drew
          replace h1 : At wdz38 w.heap.size (.cells #[.int .i64 p, .int .i64 a, .int .i64 b, .int .i64 d, .slice (some ⟨bB, oB, none⟩) N c] 31 (0, 0)) := by rw [← hwdz38]; exact h1
          replace h2 : At wdz38 Wz2.heap.size (.cells #[.int .i64 0, .int .i64 0, .int .i64 0, .int .i64 0, .slice none 0 0] 28 (0, 0)) := by rw [← hwdz38]; exact h2
          replace ho : Own wdz38 w.heap.size (.slice A9 L c9) (plL b d xs (t)) := by rw [← hwdz38]; exact ho.drew
          clear hwdz38
          refine y_yield 0 (some 18) (.slice A9 L c9) rfl (by kernel_rfl) (by kernel_rfl) (by kernel_rfl) (fun _ _ _ h => h) rfl rfl ⟨hB, h1⟩ (fun w' h' => exec_move _ rfl (.slice A9 L c9) rfl) ?_
          go_frame
          refine y_yield 1 (some 19) (.pointer (some ⟨w.heap.size, 0, none⟩)) rfl (by kernel_rfl) (by kernel_rfl) (by kernel_rfl) (fun _ _ _ h => h) rfl rfl ⟨hB, h1⟩ (fun w' h' => exec_fieldAddr 31 _ 0 rfl _ (by kernel_rfl)) ?_
          go_frame
          refine y_yield 2 (some 20) (.int .i64 p) rfl (by kernel_rfl) (by kernel_rfl) (by kernel_rfl) (fun _ _ _ h => h) rfl rfl ⟨hB, h1⟩ (fun w' h' => exec_load_one 2 _ rfl w.heap.size 0 rfl (.int .i64 p) _ Try.underlying2 rfl (h'.2.at_ 0)) ?_
          go_frame
          refine y_yield 3 (some 21) (.int .i64 X) rfl (by kernel_rfl) (by kernel_rfl) (by kernel_rfl) (fun _ _ _ h => h) rfl rfl ⟨hB, h1⟩ (fun w' h' => exec_move _ rfl (.int .i64 X) rfl) ?_
          go_frame
          refine y_yield 4 (some 22) (.int .i64 t) rfl (by kernel_rfl) (by kernel_rfl) (by kernel_rfl) (fun _ _ _ h => h) rfl rfl ⟨hB, h1⟩ (fun w' h' => exec_move _ rfl (.int .i64 t) rfl) ?_
          go_frame
          refine y_yield 5 (some 23) (.pointer (some ⟨w.heap.size, 2, none⟩)) rfl (by kernel_rfl) (by kernel_rfl) (by kernel_rfl) (fun _ _ _ h => h) rfl rfl ⟨hB, h1⟩ (fun w' h' => exec_fieldAddr 31 _ 2 rfl _ (by kernel_rfl)) ?_
          go_frame
          refine y_yield 6 (some 24) (.int .i64 b) rfl (by kernel_rfl) (by kernel_rfl) (by kernel_rfl) (fun _ _ _ h => h) rfl rfl ⟨hB, h1⟩ (fun w' h' => exec_load_one 2 _ rfl w.heap.size 2 rfl (.int .i64 b) _ Try.underlying2 rfl (h'.2.at_ 2)) ?_
          go_frame
          refine y_yield 7 (some 25) (.pointer (some ⟨w.heap.size, 3, none⟩)) rfl (by kernel_rfl) (by kernel_rfl) (by kernel_rfl) (fun _ _ _ h => h) rfl rfl ⟨hB, h1⟩ (fun w' h' => exec_fieldAddr 31 _ 3 rfl _ (by kernel_rfl)) ?_
          go_frame
          refine y_yield 8 (some 26) (.int .i64 d) rfl (by kernel_rfl) (by kernel_rfl) (by kernel_rfl) (fun _ _ _ h => h) rfl rfl ⟨hB, h1⟩ (fun w' h' => exec_load_one 2 _ rfl w.heap.size 3 rfl (.int .i64 d) _ Try.underlying2 rfl (h'.2.at_ 3)) ?_
          go_frame
          refine y_yield 9 (some 27) (.int .i64 M) rfl (by kernel_rfl) (by kernel_rfl) (by kernel_rfl) (fun _ _ _ h => h) rfl rfl ⟨hB, h1⟩ (fun w' h' => exec_mul _ _ _ _ rfl b d M rfl rfl HM.out) ?_
          go_frame
          refine y_yield 10 (some 28) (.int .i64 I) rfl (by kernel_rfl) (by kernel_rfl) (by kernel_rfl) (fun _ _ _ h => h) rfl rfl ⟨hB, h1⟩ (fun w' h' => exec_quo _ _ _ _ rfl t M I rfl rfl hMz HI.out) ?_
          go_frame
          refine y_yield 13 (some 31) (.int .i64 t) rfl (by kernel_rfl) (by kernel_rfl) (by kernel_rfl) (fun _ _ _ h => h) rfl rfl ⟨hB, h1⟩ (fun w' h' => exec_move _ rfl (.int .i64 t) rfl) ?_
          go_frame
          refine y_yield 14 (some 32) (.pointer (some ⟨w.heap.size, 3, none⟩)) rfl (by kernel_rfl) (by kernel_rfl) (by kernel_rfl) (fun _ _ _ h => h) rfl rfl ⟨hB, h1⟩ (fun w' h' => exec_fieldAddr 31 _ 3 rfl _ (by kernel_rfl)) ?_
          go_frame
          refine y_yield 15 (some 33) (.int .i64 d) rfl (by kernel_rfl) (by kernel_rfl) (by kernel_rfl) (fun _ _ _ h => h) rfl rfl ⟨hB, h1⟩ (fun w' h' => exec_load_one 2 _ rfl w.heap.size 3 rfl (.int .i64 d) _ Try.underlying2 rfl (h'.2.at_ 3)) ?_
          go_frame
          refine y_yield 16 (some 34) (.int .i64 K1) rfl (by kernel_rfl) (by kernel_rfl) (by kernel_rfl) (fun _ _ _ h => h) rfl rfl ⟨hB, h1⟩ (fun w' h' => exec_quo _ _ _ _ rfl t d K1 rfl rfl hdz HK1.out) ?_
          go_frame
          refine y_yield 17 (some 35) (.pointer (some ⟨w.heap.size, 2, none⟩)) rfl (by kernel_rfl) (by kernel_rfl) (by kernel_rfl) (fun _ _ _ h => h) rfl rfl ⟨hB, h1⟩ (fun w' h' => exec_fieldAddr 31 _ 2 rfl _ (by kernel_rfl)) ?_
          go_frame
          refine y_yield 18 (some 36) (.int .i64 b) rfl (by kernel_rfl) (by kernel_rfl) (by kernel_rfl) (fun _ _ _ h => h) rfl rfl ⟨hB, h1⟩ (fun w' h' => exec_load_one 2 _ rfl w.heap.size 2 rfl (.int .i64 b) _ Try.underlying2 rfl (h'.2.at_ 2)) ?_
          go_frame
          refine y_yield 19 (some 37) (.int .i64 J) rfl (by kernel_rfl) (by kernel_rfl) (by kernel_rfl) (fun _ _ _ h => h) rfl rfl ⟨hB, h1⟩ (fun w' h' => exec_rem _ _ _ _ rfl K1 b J rfl rfl hbz HJ.out) ?_
          go_frame
          refine y_yield 21 (some 39) (.int .i64 t) rfl (by kernel_rfl) (by kernel_rfl) (by kernel_rfl) (fun _ _ _ h => h) rfl rfl ⟨hB, h1⟩ (fun w' h' => exec_move _ rfl (.int .i64 t) rfl) ?_
          go_frame
          refine y_yield 22 (some 40) (.pointer (some ⟨w.heap.size, 3, none⟩)) rfl (by kernel_rfl) (by kernel_rfl) (by kernel_rfl) (fun _ _ _ h => h) rfl rfl ⟨hB, h1⟩ (fun w' h' => exec_fieldAddr 31 _ 3 rfl _ (by kernel_rfl)) ?_
          go_frame
          refine y_yield 23 (some 41) (.int .i64 d) rfl (by kernel_rfl) (by kernel_rfl) (by kernel_rfl) (fun _ _ _ h => h) rfl rfl ⟨hB, h1⟩ (fun w' h' => exec_load_one 2 _ rfl w.heap.size 3 rfl (.int .i64 d) _ Try.underlying2 rfl (h'.2.at_ 3)) ?_
          go_frame
          refine y_yield 24 (some 42) (.int .i64 K) rfl (by kernel_rfl) (by kernel_rfl) (by kernel_rfl) (fun _ _ _ h => h) rfl rfl ⟨hB, h1⟩ (fun w' h' => exec_rem _ _ _ _ rfl t d K rfl rfl hdz HK.out) ?_
          go_frame
          refine y_oper 11 (by kernel_rfl) rfl rfl (fun K' hK' => ?_)
          have lz41 := hB.size
          have lz42 := h1.lt
          have lz43 := h2.lt
          refine wp_call1 (some 29) rfl 62 _ _ rfl (fun args w => by kernel_rfl) _ rfl _ (unitForm_c I hI9 _) (fun e Wz39 h => ?_)
          obtain ⟨rfl, bz40⟩ := h
          replace hB := below_after hB bz40
          replace h1 := h1.after bz40
          replace h2 := h2.after bz40
          replace ho := ho.below bz40
          clear bz40
          refine ⟨_, rfl, ?_⟩
          refine hK' _ _ ⟨hB, h1⟩ (fun _ => trivial) ?_
          clear hK' K'
          go_frame
          refine y_oper 12 (by kernel_rfl) rfl rfl (fun K' hK' => ?_)
          have lz46 := hB.size
          have lz47 := h1.lt
          have lz48 := h2.lt
          refine wp_call3 (some 30) rfl 61 _ _ _ _ rfl (fun args w => by kernel_rfl) _ _ _ rfl rfl rfl _ (multipliedBy_c p X (unitL I) (unitL_bytes hI9) _ (by omega) (by omega) (by omega) (by omega)) (fun e Wz44 h => ?_)
          obtain ⟨rfl, bz45⟩ := h
          replace hB := below_after hB bz45
          replace h1 := h1.after bz45
          replace h2 := h2.after bz45
          replace ho := ho.below bz45
          rw [HFA.out]
          clear bz45
          refine ⟨_, rfl, ?_⟩
          refine hK' _ _ ⟨hB, h1⟩ (fun _ => trivial) ?_
          clear hK' K'
          go_frame
          refine y_oper 20 (by kernel_rfl) rfl rfl (fun K' hK' => ?_)
          have lz51 := hB.size
          have lz52 := h1.lt
          have lz53 := h2.lt
          refine wp_call1 (some 38) rfl 62 _ _ rfl (fun args w => by kernel_rfl) _ rfl _ (unitForm_c J hJ9 _) (fun e Wz49 h => ?_)
          obtain ⟨rfl, bz50⟩ := h
          replace hB := below_after hB bz50
          replace h1 := h1.after bz50
          replace h2 := h2.after bz50
          replace ho := ho.below bz50
          clear bz50
          refine ⟨_, rfl, ?_⟩
          refine hK' _ _ ⟨hB, h1⟩ (fun _ => trivial) ?_
          clear hK' K'
          go_frame
          refine y_oper 25 (by kernel_rfl) rfl rfl (fun K' hK' => ?_)
          have lz56 := hB.size
          have lz57 := h1.lt
          have lz58 := h2.lt
          refine wp_call1 (some 43) rfl 62 _ _ rfl (fun args w => by kernel_rfl) _ rfl _ (unitForm_c K hK9 _) (fun e Wz54 h => ?_)
          obtain ⟨rfl, bz55⟩ := h
          replace hB := below_after hB bz55
          replace h1 := h1.after bz55
          replace h2 := h2.after bz55
          replace ho := ho.below bz55
          clear bz55
          refine ⟨_, rfl, ?_⟩
          refine hK' _ _ ⟨hB, h1⟩ (fun _ => trivial) ?_
          clear hK' K'
          go_frame
          refine y_yield 26 (some 44) (.agg (u8s (cat3 FA (unitL J) (unitL K)))) rfl (by kernel_rfl) (by kernel_rfl) (by kernel_rfl) (fun _ _ _ h => h) rfl rfl ⟨hB, h1⟩ (fun w' h' => exec_prodC _ _ _ rfl (FA) (unitL J) (unitL K) rfl rfl rfl HFAb.out.len (unitL_bytes hJ9).len (unitL_bytes hK9).len) ?_
          go_frame
          refine y_oper 27 (by kernel_rfl) rfl rfl (fun K' hK' => ?_)
          have lz62 := hB.size
          have lz63 := h1.lt
          have lz64 := h2.lt
          refine wp_call2 (some 45) rfl 60 _ _ _ rfl (fun args w => by kernel_rfl) _ _ rfl rfl _ (withOneMore_c A9 L c9 (plL b d xs (t)) (cat3 FA (unitL J) (unitL K)) _ ho HL.out (bytes3 HFAb.out (unitL_bytes hJ9) (unitL_bytes hK9)) (by omega) (by omega)) (fun e Wz59 h => ?_)
          obtain ⟨v8, rfl, noz61, grz60⟩ := h
          rw [HP.out] at noz61
          obtain ⟨A8, c8, rfl⟩ := Own.rdN2 noz61 (n := L + 1) HL1.out
          replace hB := below_grown hB grz60 ho (by omega)
          replace h1 := h1.grown grz60 (ho.off h1 (by decide))
          replace h2 := h2.grown grz60 (ho.off h2 (by decide))
          replace ho := noz61
          refine ⟨_, rfl, ?_⟩
          refine hK' _ _ ⟨hB, h1⟩ (fun _ => trivial) ?_
          clear hK' K' grz60
          go_frame
          refine y_oper 28 (by kernel_rfl) rfl rfl (fun K' hK' => ?_)
          refine wp_exec (some 3) rfl (.slice A8 (L + 1) c8) (exec_assign _ rfl (.slice A8 (L + 1) c8) rfl) ?_
          refine hK' _ _ ⟨hB, h1⟩ (fun _ => trivial) ?_
          clear hK' K'
          go_frame
          refine y_done (by kernel_rfl) ?_ _
          go_upto_region 8 with (fail)
          refine wp_region_lit ?_
          refine ls_ex (some 46) (.int .i64 (t + 1)) rfl rfl (exec_add _ _ _ _ rfl t 1 (t + 1) rfl rfl (IntWalk.i64_in _ (by omega))) ?_
          go_frame
          refine ls_ex (some 10) (.int .i64 (t + 1)) rfl rfl (exec_move _ rfl (.int .i64 (t + 1)) rfl) ?_
          go_frame
          refine wpList_nil ?_
          go_wp2_with fail
          go_roundw
          case rel => exact ⟨t + 1, _, by omega, by go_num, rfl, by rw [HL1.out]; omega, hB, h1, h2, ho⟩
          case measure => simp [intOf]; omega
    · have ht9 : t = N := by omega
      rw [ht9] at hl30
      exact absurd (plCode_ok hs9.out (by rw [HXl.out]; exact hl30)) (by rw [HC.out]; decide)
set_option maxHeartbeats 4000000 in
theorem plainF_ok (p : Int) (a b d : Nat) (bB oB c N : Nat) (xs : List Int) (g : Nat) (w : World) (hX : RdI w (some ⟨bB, oB, none⟩) xs) (hg : At w g (.cells #[.int .i64 p, .int .i64 a, .int .i64 b, .int .i64 d, .slice (some ⟨bB, oB, none⟩) N c] 31 (0, 0))) (hxl : xs.length = N) (hs : tenB p a b d xs = true) (hc : plCode p a b d xs = 0) :
    Calls Try.prog 33 #[.pointer (some ⟨g, 0, none⟩)] w (fun e w' => ∃ v, e = .returned (.tuple #[.agg #[.int .i64 p, .int .i64 a, .int .i64 b, .int .i64 d, v], .int .i64 0]) ∧ Own w' w.heap.size v (plL b d xs (N)) ∧ Below w.heap.size w w') := by
  have hB := Below.refl w.heap.size w
  have HC := Lib.hid hc
  clear hc
  have HXl := Lib.hid hxl
  have Hs := Lib.hid hs
  clear hxl hs
  obtain ⟨L, hL⟩ : ∃ z9, (plL b d xs (N)).length = z9 := ⟨_, rfl⟩
  have HL := Lib.hid hL
  clear hL
  go_enter Try.func33, Try.ntmps33
  go_upto_region 0 with (fail)
  refine wp_region_lit ?_
  refine ls_op rfl (fun K' hK' => ?_)
  have lz1 := hB.size
  have lz2 := hg.lt
  refine wp_new (some 1) rfl (al_impl_Method rfl) (fun Wz3 nnz4 => ?_)
  have bz5 := nnz4.below (Below.refl _ _) (Nat.le_refl _)
  replace hB := below_after hB bz5
  replace hg := hg.after bz5
  have hz6 : At Wz3 w.heap.size (.cells #[.int .i64 0, .int .i64 0, .int .i64 0, .int .i64 0, .slice none 0 0] 28 (0, 0)) := nnz4.at_
  refine hK' _ _ ?_
  clear hK' K' nnz4 bz5
  go_frame
  refine ls_ex (some 2) (.int .i64 0) rfl rfl (exec_assign _ rfl (.int .i64 0) rfl) ?_
  go_frame
  refine wpList_nil ?_
  go_upto_region 1 with (fail)
  refine wp_region_lit ?_
  refine ls_ex (some 3) (.agg #[.int .i64 p, .int .i64 a, .int .i64 b, .int .i64 d, .slice (some ⟨bB, oB, none⟩) N c]) rfl rfl (exec_load_all 31 _ rfl g rfl _ _ _ hg Try.underlying31 rfl 5 (by kernel_rfl) rfl) ?_
  go_frame
  refine ls_op rfl (fun K' hK' => ?_)
  have lz9 := hB.size
  have lz10 := hg.lt
  have lz11 := hz6.lt
  have lo9 := hB.size
  refine wp_call1 (some 4) rfl 34 _ _ rfl (fun args w => by kernel_rfl) _ rfl _ (plainMethod_ok p a b d bB oB c N xs _ (hX.keep hB) HXl.out Hs.out HC.out) (fun e Wz7 h => ?_)
  obtain ⟨v9, rfl, ho, bz8⟩ := h
  replace hB := below_after hB bz8
  replace hg := hg.after bz8
  replace hz6 := hz6.after bz8
  obtain ⟨A9, c9, rfl⟩ := Own.rdN2 ho (n := L) HL.out
  clear bz8
  refine ⟨_, rfl, ?_⟩
  refine hK' _ _ ?_
  clear hK' K'
  go_frame
  refine ls_op rfl (fun K' hK' => ?_)
  refine wp_store_all 28 _ _ rfl rfl w.heap.size rfl #[.int .i64 p, .int .i64 a, .int .i64 b, .int .i64 d, .slice A9 L c9] rfl _ _ hz6 5 (by kernel_rfl) rfl rfl (one5 _ _ _ _ _ _ _) (fun Wz12 pz13 => ?_)
  replace hB := pz13.below hB (by omega)
  replace hg := pz13.other hg (by omega)
  replace ho := ho.put pz13 (ho.off hz6 (by decide))
  replace hz6 : At Wz12 w.heap.size (.cells #[.int .i64 p, .int .i64 a, .int .i64 b, .int .i64 d, .slice A9 L c9] 28 (0, 0)) := pz13.at_
  refine hK' _ _ ?_
  clear hK' K' pz13
  refine ls_ex (some 2) (.int .i64 0) rfl rfl (exec_assign _ rfl (.int .i64 0) rfl) ?_
  go_frame
  refine wpList_nil ?_
  go_wp2_with fail
  refine bodyPost_ret (results_at2 rfl _ _ w.heap.size _ _ _ rfl _ rfl hz6 Try.underlying28 rfl 5 (by kernel_rfl) rfl) rfl ?_
  exact ⟨_, rfl, ho.mono (by omega), hB⟩
set_option maxHeartbeats 4000000 in
theorem plainF_no (p : Int) (a b d : Nat) (bB oB c N : Nat) (xs : List Int) (g : Nat) (w : World) (hX : RdI w (some ⟨bB, oB, none⟩) xs) (hg : At w g (.cells #[.int .i64 p, .int .i64 a, .int .i64 b, .int .i64 d, .slice (some ⟨bB, oB, none⟩) N c] 31 (0, 0))) (hxl : xs.length = N) (hs : tenB p a b d xs = true) (hc : plCode p a b d xs = 3) :
    Calls Try.prog 33 #[.pointer (some ⟨g, 0, none⟩)] w (fun e w' => FailsM e ∧ Below w.heap.size w w') := by
  have hB := Below.refl w.heap.size w
  have HC := Lib.hid hc
  clear hc
  have HXl := Lib.hid hxl
  have Hs := Lib.hid hs
  clear hxl hs
  go_enter Try.func33, Try.ntmps33
  go_upto_region 0 with (fail)
  refine wp_region_lit ?_
  refine ls_op rfl (fun K' hK' => ?_)
  have lz1 := hB.size
  have lz2 := hg.lt
  refine wp_new (some 1) rfl (al_impl_Method rfl) (fun Wz3 nnz4 => ?_)
  have bz5 := nnz4.below (Below.refl _ _) (Nat.le_refl _)
  replace hB := below_after hB bz5
  replace hg := hg.after bz5
  have hz6 : At Wz3 w.heap.size (.cells #[.int .i64 0, .int .i64 0, .int .i64 0, .int .i64 0, .slice none 0 0] 28 (0, 0)) := nnz4.at_
  refine hK' _ _ ?_
  clear hK' K' nnz4 bz5
  go_frame
  refine ls_ex (some 2) (.int .i64 0) rfl rfl (exec_assign _ rfl (.int .i64 0) rfl) ?_
  go_frame
  refine wpList_nil ?_
  go_upto_region 1 with (fail)
  refine wp_region_lit ?_
  refine ls_ex (some 3) (.agg #[.int .i64 p, .int .i64 a, .int .i64 b, .int .i64 d, .slice (some ⟨bB, oB, none⟩) N c]) rfl rfl (exec_load_all 31 _ rfl g rfl _ _ _ hg Try.underlying31 rfl 5 (by kernel_rfl) rfl) ?_
  go_frame
  refine ls_op rfl (fun K' hK' => ?_)
  have lz9 := hB.size
  have lz10 := hg.lt
  have lz11 := hz6.lt
  refine wp_call1_p 34 _ _ rfl (fun args w => by kernel_rfl) _ rfl _ (plainMethod_no p a b d bB oB c N xs _ (hX.keep hB) HXl.out Hs.out HC.out) (fun e Wz7 h => ?_)
  obtain ⟨hf, bz8⟩ := h
  replace hB := below_after hB bz8
  replace hg := hg.after bz8
  replace hz6 := hz6.after bz8
  refine ⟨_, hf, ?_⟩
  exact ⟨rfl, rfl, hB⟩
set_option maxHeartbeats 4000000 in
theorem implPlain_a (p a b d : Int) (A : Option Addr) (c : Nat) (xs : List Int) (w : World) (hX : RdI w A xs) (hlen : xs.length ≤ 1048576) (hs : tenB p a b d xs = false) :
    Calls Try.prog 11 #[.agg #[.int .i64 p, .int .i64 a, .int .i64 b, .int .i64 d, .slice A xs.length c]] w (ResH w (hZ (plCode p a b d xs) p) (hZ (plCode p a b d xs) a) (hZ (plCode p a b d xs) b) (hZ (plCode p a b d xs) d) (hL (plCode p a b d xs) (plL b.toNat d.toNat xs xs.length)) (plCode p a b d xs)) := by
  have hB := Below.refl w.heap.size w
  have HC : Hid (plCode p a b d xs = 1) := Lib.hid (by unfold plCode; rw [hs]; rfl)
  have Hs := Lib.hid hs
  clear hs
  go_enter Try.func11, Try.ntmps11
  go_upto_region 0 with (fail)
  refine wp_region_lit ?_
  refine ls_op rfl (fun K' hK' => ?_)
  have lz1 := hB.size
  refine wp_new (some 1) rfl (exec_box 31 _ rfl (#[.int .i64 p, .int .i64 a, .int .i64 b, .int .i64 d, .slice A xs.length c]) rfl) (fun Wz2 nnz3 => ?_)
  have bz4 := nnz3.below (Below.refl _ _) (Nat.le_refl _)
  replace hB := below_after hB bz4
  have hz5 : At Wz2 w.heap.size (.cells #[.int .i64 p, .int .i64 a, .int .i64 b, .int .i64 d, .slice A xs.length c] 31 (0, 0)) := nnz3.at_
  refine hK' _ _ ?_
  clear hK' K' nnz3 bz4
  go_frame
  refine ls_op rfl (fun K' hK' => ?_)
  have lz6 := hB.size
  have lz7 := hz5.lt
  refine wp_new (some 2) rfl (al_impl_Method rfl) (fun Wz8 nnz9 => ?_)
  have bz10 := nnz9.below (Below.refl _ _) (Nat.le_refl _)
  replace hB := below_after hB bz10
  replace hz5 := hz5.after bz10
  have hz11 : At Wz8 Wz2.heap.size (.cells #[.int .i64 0, .int .i64 0, .int .i64 0, .int .i64 0, .slice none 0 0] 28 (0, 0)) := nnz9.at_
  refine hK' _ _ ?_
  clear hK' K' nnz9 bz10
  go_frame
  refine ls_ex (some 3) (.int .i64 0) rfl rfl (exec_assign _ rfl (.int .i64 0) rfl) ?_
  go_frame
  refine wpList_nil ?_
  go_upto_region 1 with (fail)
  refine wp_region_lit ?_
  refine ls_ex (some 4) (.agg #[.int .i64 p, .int .i64 a, .int .i64 b, .int .i64 d, .slice A xs.length c]) rfl rfl (exec_load_all 31 _ rfl w.heap.size rfl _ _ _ hz5 Try.underlying31 rfl 5 (by kernel_rfl) rfl) ?_
  go_frame
  refine ls_op rfl (fun K' hK' => ?_)
  have lz14 := hB.size
  have lz15 := hz5.lt
  have lz16 := hz11.lt
  refine wp_call1 (some 5) rfl 31 _ _ rfl (fun args w => by kernel_rfl) _ rfl _ (implIsTensor_c p a b d A c xs _ (hX.keep hB) (by omega)) (fun e Wz12 h => ?_)
  obtain ⟨rfl, bz13⟩ := h
  replace hB := below_after hB bz13
  replace hz5 := hz5.after bz13
  replace hz11 := hz11.after bz13
  rw [Hs.out]
  clear bz13
  refine ⟨_, rfl, ?_⟩
  refine hK' _ _ ?_
  clear hK' K'
  go_frame
  refine ls_ex (some 6) (.bool true) rfl rfl (exec_not _ _ rfl false rfl) ?_
  go_frame
  refine wpList_nil ?_
  go_upto_region 2 with (fail)
  refine wp_region_lit ?_
  refine ls_ex (some 7) (.agg #[.int .i64 0, .int .i64 0, .int .i64 0, .int .i64 0, .slice none 0 0]) rfl rfl (exec_build_nil 28 rfl _ (by kernel_rfl)) ?_
  go_frame
  refine ls_op rfl (fun K' hK' => ?_)
  refine wp_store_all 28 _ _ rfl rfl Wz2.heap.size rfl #[.int .i64 0, .int .i64 0, .int .i64 0, .int .i64 0, .slice none 0 0] rfl _ _ hz11 5 (by kernel_rfl) rfl rfl (one5 _ _ _ _ _ _ _) (fun Wz17 pz18 => ?_)
  replace hB := pz18.below hB (by omega)
  replace hz5 := pz18.other hz5 (by omega)
  replace hz11 : At Wz17 Wz2.heap.size (.cells #[.int .i64 0, .int .i64 0, .int .i64 0, .int .i64 0, .slice none 0 0] 28 (0, 0)) := pz18.at_
  refine hK' _ _ ?_
  clear hK' K' pz18
  refine ls_ex (some 3) (.int .i64 1) rfl rfl (exec_assign _ rfl (.int .i64 1) rfl) ?_
  go_frame
  refine wpList_nil ?_
  go_wp2_with fail
  refine bodyPost_ret (results_at2 rfl _ _ Wz2.heap.size _ _ _ rfl _ rfl hz11 Try.underlying28 rfl 5 (by kernel_rfl) rfl) rfl ?_
  unfold ResH hZ hL
  rw [HC.out]
  exact ⟨_, rfl, Own.nil _ _, hB⟩
set_option maxHeartbeats 4000000 in
theorem implPlain_y (p : Int) (a b d : Nat) (bB oB c N : Nat) (xs : List Int) (w : World) (hX : RdI w (some ⟨bB, oB, none⟩) xs) (hxl : xs.length = N) (hs : tenB p a b d xs = true) (hc : plCode p a b d xs = 0) :
    Calls Try.prog 11 #[.agg #[.int .i64 p, .int .i64 a, .int .i64 b, .int .i64 d, .slice (some ⟨bB, oB, none⟩) N c]] w (ResH w (hZ (plCode p a b d xs) p) (hZ (plCode p a b d xs) a) (hZ (plCode p a b d xs) b) (hZ (plCode p a b d xs) d) (hL (plCode p a b d xs) (plL ((b : Int)).toNat ((d : Int)).toNat xs xs.length)) (plCode p a b d xs)) := by
  have hB := Below.refl w.heap.size w
  have HC := Lib.hid hc
  clear hc
  have hp5 := prime_le5 (ten_parts hs).1
  have hdm := (ten_parts hs).2
  have ha1 : 1 ≤ a ∧ a ≤ 9 := hdm.1
  have hb0 : 1 ≤ b ∧ b ≤ 9 := hdm.2.1
  have hd0 : 1 ≤ d ∧ d ≤ 9 := hdm.2.2.1
  have hb1 : 0 < b := hb0.1
  have hd1 : 0 < d := hd0.1
  have HN3 : Hid (a * b * d = N) := Lib.hid (by rw [← hxl]; exact hdm.2.2.2.1.symm)
  have HNb := Lib.hid hdm.2.2.2.2
  have hNb : N ≤ 729 := by rw [← HN3.out]; exact Nat.le_trans (Nat.mul_le_mul (Nat.mul_le_mul ha1.2 hb0.2) hd0.2) (by decide)
  have HXl := Lib.hid hxl
  have hs9 := Lib.hid hs
  have Hs := Lib.hid hs
  clear hs hxl hdm
  obtain ⟨L, hL⟩ : ∃ z9, (plL b d xs (N)).length = z9 := ⟨_, rfl⟩
  have HL := Lib.hid hL
  clear hL
  go_enter Try.func11, Try.ntmps11
  go_upto_region 0 with (fail)
  refine wp_region_lit ?_
  refine ls_op rfl (fun K' hK' => ?_)
  have lz1 := hB.size
  refine wp_new (some 1) rfl (exec_box 31 _ rfl (#[.int .i64 p, .int .i64 a, .int .i64 b, .int .i64 d, .slice (some ⟨bB, oB, none⟩) N c]) rfl) (fun Wz2 nnz3 => ?_)
  have bz4 := nnz3.below (Below.refl _ _) (Nat.le_refl _)
  replace hB := below_after hB bz4
  have hz5 : At Wz2 w.heap.size (.cells #[.int .i64 p, .int .i64 a, .int .i64 b, .int .i64 d, .slice (some ⟨bB, oB, none⟩) N c] 31 (0, 0)) := nnz3.at_
  refine hK' _ _ ?_
  clear hK' K' nnz3 bz4
  go_frame
  refine ls_op rfl (fun K' hK' => ?_)
  have lz6 := hB.size
  have lz7 := hz5.lt
  refine wp_new (some 2) rfl (al_impl_Method rfl) (fun Wz8 nnz9 => ?_)
  have bz10 := nnz9.below (Below.refl _ _) (Nat.le_refl _)
  replace hB := below_after hB bz10
  replace hz5 := hz5.after bz10
  have hz11 : At Wz8 Wz2.heap.size (.cells #[.int .i64 0, .int .i64 0, .int .i64 0, .int .i64 0, .slice none 0 0] 28 (0, 0)) := nnz9.at_
  refine hK' _ _ ?_
  clear hK' K' nnz9 bz10
  go_frame
  refine ls_ex (some 3) (.int .i64 0) rfl rfl (exec_assign _ rfl (.int .i64 0) rfl) ?_
  go_frame
  refine wpList_nil ?_
  go_upto_region 1 with (fail)
  refine wp_region_lit ?_
  refine ls_ex (some 4) (.agg #[.int .i64 p, .int .i64 a, .int .i64 b, .int .i64 d, .slice (some ⟨bB, oB, none⟩) N c]) rfl rfl (exec_load_all 31 _ rfl w.heap.size rfl _ _ _ hz5 Try.underlying31 rfl 5 (by kernel_rfl) rfl) ?_
  go_frame
  refine ls_op rfl (fun K' hK' => ?_)
  have lz14 := hB.size
  have lz15 := hz5.lt
  have lz16 := hz11.lt
  refine wp_call1 (some 5) rfl 31 _ _ rfl (fun args w => by kernel_rfl) _ rfl _ (implIsTensorN_c p a b d (some ⟨bB, oB, none⟩) N c xs _ HXl.out (hX.keep hB) (by omega)) (fun e Wz12 h => ?_)
  obtain ⟨rfl, bz13⟩ := h
  replace hB := below_after hB bz13
  replace hz5 := hz5.after bz13
  replace hz11 := hz11.after bz13
  rw [Hs.out]
  clear bz13
  refine ⟨_, rfl, ?_⟩
  refine hK' _ _ ?_
  clear hK' K'
  go_frame
  refine ls_ex (some 6) (.bool false) rfl rfl (exec_not _ _ rfl true rfl) ?_
  go_frame
  refine wpList_nil ?_
  go_upto_region 3 with (fail)
  refine wp_region_lit ?_
  refine ls_ex (some 8) (.func (.func 33) #[] #[.pointer (some ⟨w.heap.size, 0, none⟩)]) rfl rfl (exec_mkf1M _ _ rfl _ rfl) ?_
  go_frame
  refine ls_op rfl (fun K' hK' => ?_)
  have lz19 := hB.size
  have lz20 := hz5.lt
  have lz21 := hz11.lt
  have lo9 := hB.size
  refine wp_call1 (some 9) rfl 32 _ _ rfl (fun args w => by kernel_rfl) _ rfl _ (doorM_ok 33 #[.pointer (some ⟨w.heap.size, 0, none⟩)] p a b d 0 (plL b d xs (N)) _ (fun w => by kernel_rfl) (fun w1 hb => plainF_ok p a b d bB oB c N xs w.heap.size w1 (hX.keep (hB.trans (hb.mono hB.size))) (hz5.after hb) HXl.out Hs.out HC.out)) (fun e Wz17 h => ?_)
  obtain ⟨v9, rfl, ho, bz18⟩ := h
  replace hB := below_after hB bz18
  replace hz5 := hz5.after bz18
  replace hz11 := hz11.after bz18
  obtain ⟨A9, c9, rfl⟩ := Own.rdN2 ho (n := L) HL.out
  clear bz18
  refine ⟨_, rfl, ?_⟩
  refine hK' _ _ ?_
  clear hK' K'
  go_frame
  refine ls_ex (some 10) (.agg #[.int .i64 p, .int .i64 a, .int .i64 b, .int .i64 d, .slice A9 L c9]) rfl rfl (exec_extract _ 0 rfl #[.agg #[.int .i64 p, .int .i64 a, .int .i64 b, .int .i64 d, .slice A9 L c9], .int .i64 0] (by rfl) _ rfl) ?_
  go_frame
  refine ls_ex (some 11) (.int .i64 0) rfl rfl (exec_extract _ 1 rfl #[.agg #[.int .i64 p, .int .i64 a, .int .i64 b, .int .i64 d, .slice A9 L c9], .int .i64 0] (by rfl) _ rfl) ?_
  go_frame
  refine ls_op rfl (fun K' hK' => ?_)
  refine wp_store_all 28 _ _ rfl rfl Wz2.heap.size rfl #[.int .i64 p, .int .i64 a, .int .i64 b, .int .i64 d, .slice A9 L c9] rfl _ _ hz11 5 (by kernel_rfl) rfl rfl (one5 _ _ _ _ _ _ _) (fun Wz22 pz23 => ?_)
  replace hB := pz23.below hB (by omega)
  replace hz5 := pz23.other hz5 (by omega)
  replace ho := ho.put pz23 (ho.off hz11 (by decide))
  replace hz11 : At Wz22 Wz2.heap.size (.cells #[.int .i64 p, .int .i64 a, .int .i64 b, .int .i64 d, .slice A9 L c9] 28 (0, 0)) := pz23.at_
  refine hK' _ _ ?_
  clear hK' K' pz23
  refine ls_ex (some 3) (.int .i64 0) rfl rfl (exec_assign _ rfl (.int .i64 0) rfl) ?_
  go_frame
  refine wpList_nil ?_
  go_wp2_with fail
  refine bodyPost_ret (results_at2 rfl _ _ Wz2.heap.size _ _ _ rfl _ rfl hz11 Try.underlying28 rfl 5 (by kernel_rfl) rfl) rfl ?_
  unfold ResH hZ hL
  rw [HC.out]
  exact ⟨_, rfl, by rw [if_pos rfl, Int.toNat_natCast, Int.toNat_natCast, HXl.out]; exact ho.mono (by omega), hB⟩
set_option maxHeartbeats 4000000 in
theorem implPlain_n (p : Int) (a b d : Nat) (bB oB c N : Nat) (xs : List Int) (w : World) (hX : RdI w (some ⟨bB, oB, none⟩) xs) (hxl : xs.length = N) (hs : tenB p a b d xs = true) (hc : plCode p a b d xs = 3) :
    Calls Try.prog 11 #[.agg #[.int .i64 p, .int .i64 a, .int .i64 b, .int .i64 d, .slice (some ⟨bB, oB, none⟩) N c]] w (ResH w (hZ (plCode p a b d xs) p) (hZ (plCode p a b d xs) a) (hZ (plCode p a b d xs) b) (hZ (plCode p a b d xs) d) (hL (plCode p a b d xs) (plL ((b : Int)).toNat ((d : Int)).toNat xs xs.length)) (plCode p a b d xs)) := by
  have hB := Below.refl w.heap.size w
  have HC := Lib.hid hc
  clear hc
  have hp5 := prime_le5 (ten_parts hs).1
  have hdm := (ten_parts hs).2
  have ha1 : 1 ≤ a ∧ a ≤ 9 := hdm.1
  have hb0 : 1 ≤ b ∧ b ≤ 9 := hdm.2.1
  have hd0 : 1 ≤ d ∧ d ≤ 9 := hdm.2.2.1
  have hb1 : 0 < b := hb0.1
  have hd1 : 0 < d := hd0.1
  have HN3 : Hid (a * b * d = N) := Lib.hid (by rw [← hxl]; exact hdm.2.2.2.1.symm)
  have HNb := Lib.hid hdm.2.2.2.2
  have hNb : N ≤ 729 := by rw [← HN3.out]; exact Nat.le_trans (Nat.mul_le_mul (Nat.mul_le_mul ha1.2 hb0.2) hd0.2) (by decide)
  have HXl := Lib.hid hxl
  have hs9 := Lib.hid hs
  have Hs := Lib.hid hs
  clear hs hxl hdm
  go_enter Try.func11, Try.ntmps11
  go_upto_region 0 with (fail)
  refine wp_region_lit ?_
  refine ls_op rfl (fun K' hK' => ?_)
  have lz1 := hB.size
  refine wp_new (some 1) rfl (exec_box 31 _ rfl (#[.int .i64 p, .int .i64 a, .int .i64 b, .int .i64 d, .slice (some ⟨bB, oB, none⟩) N c]) rfl) (fun Wz2 nnz3 => ?_)
  have bz4 := nnz3.below (Below.refl _ _) (Nat.le_refl _)
  replace hB := below_after hB bz4
  have hz5 : At Wz2 w.heap.size (.cells #[.int .i64 p, .int .i64 a, .int .i64 b, .int .i64 d, .slice (some ⟨bB, oB, none⟩) N c] 31 (0, 0)) := nnz3.at_
  refine hK' _ _ ?_
  clear hK' K' nnz3 bz4
  go_frame
  refine ls_op rfl (fun K' hK' => ?_)
  have lz6 := hB.size
  have lz7 := hz5.lt
  refine wp_new (some 2) rfl (al_impl_Method rfl) (fun Wz8 nnz9 => ?_)
  have bz10 := nnz9.below (Below.refl _ _) (Nat.le_refl _)
  replace hB := below_after hB bz10
  replace hz5 := hz5.after bz10
  have hz11 : At Wz8 Wz2.heap.size (.cells #[.int .i64 0, .int .i64 0, .int .i64 0, .int .i64 0, .slice none 0 0] 28 (0, 0)) := nnz9.at_
  refine hK' _ _ ?_
  clear hK' K' nnz9 bz10
  go_frame
  refine ls_ex (some 3) (.int .i64 0) rfl rfl (exec_assign _ rfl (.int .i64 0) rfl) ?_
  go_frame
  refine wpList_nil ?_
  go_upto_region 1 with (fail)
  refine wp_region_lit ?_
  refine ls_ex (some 4) (.agg #[.int .i64 p, .int .i64 a, .int .i64 b, .int .i64 d, .slice (some ⟨bB, oB, none⟩) N c]) rfl rfl (exec_load_all 31 _ rfl w.heap.size rfl _ _ _ hz5 Try.underlying31 rfl 5 (by kernel_rfl) rfl) ?_
  go_frame
  refine ls_op rfl (fun K' hK' => ?_)
  have lz14 := hB.size
  have lz15 := hz5.lt
  have lz16 := hz11.lt
  refine wp_call1 (some 5) rfl 31 _ _ rfl (fun args w => by kernel_rfl) _ rfl _ (implIsTensorN_c p a b d (some ⟨bB, oB, none⟩) N c xs _ HXl.out (hX.keep hB) (by omega)) (fun e Wz12 h => ?_)
  obtain ⟨rfl, bz13⟩ := h
  replace hB := below_after hB bz13
  replace hz5 := hz5.after bz13
  replace hz11 := hz11.after bz13
  rw [Hs.out]
  clear bz13
  refine ⟨_, rfl, ?_⟩
  refine hK' _ _ ?_
  clear hK' K'
  go_frame
  refine ls_ex (some 6) (.bool false) rfl rfl (exec_not _ _ rfl true rfl) ?_
  go_frame
  refine wpList_nil ?_
  go_upto_region 3 with (fail)
  refine wp_region_lit ?_
  refine ls_ex (some 8) (.func (.func 33) #[] #[.pointer (some ⟨w.heap.size, 0, none⟩)]) rfl rfl (exec_mkf1M _ _ rfl _ rfl) ?_
  go_frame
  refine ls_op rfl (fun K' hK' => ?_)
  have lz19 := hB.size
  have lz20 := hz5.lt
  have lz21 := hz11.lt
  refine wp_call1 (some 9) rfl 32 _ _ rfl (fun args w => by kernel_rfl) _ rfl _ (doorM_no 33 #[.pointer (some ⟨w.heap.size, 0, none⟩)] _ (fun w => by kernel_rfl) (fun w1 hb => plainF_no p a b d bB oB c N xs w.heap.size w1 (hX.keep (hB.trans (hb.mono hB.size))) (hz5.after hb) HXl.out Hs.out HC.out)) (fun e Wz17 h => ?_)
  obtain ⟨rfl, bz18⟩ := h
  replace hB := below_after hB bz18
  replace hz5 := hz5.after bz18
  replace hz11 := hz11.after bz18
  clear bz18
  refine ⟨_, rfl, ?_⟩
  refine hK' _ _ ?_
  clear hK' K'
  go_frame
  refine ls_ex (some 10) (.agg #[.int .i64 0, .int .i64 0, .int .i64 0, .int .i64 0, .slice none 0 0]) rfl rfl (exec_extract _ 0 rfl #[.agg #[.int .i64 0, .int .i64 0, .int .i64 0, .int .i64 0, .slice none 0 0], .int .i64 3] (by rfl) _ rfl) ?_
  go_frame
  refine ls_ex (some 11) (.int .i64 3) rfl rfl (exec_extract _ 1 rfl #[.agg #[.int .i64 0, .int .i64 0, .int .i64 0, .int .i64 0, .slice none 0 0], .int .i64 3] (by rfl) _ rfl) ?_
  go_frame
  refine ls_op rfl (fun K' hK' => ?_)
  refine wp_store_all 28 _ _ rfl rfl Wz2.heap.size rfl #[.int .i64 0, .int .i64 0, .int .i64 0, .int .i64 0, .slice none 0 0] rfl _ _ hz11 5 (by kernel_rfl) rfl rfl (one5 _ _ _ _ _ _ _) (fun Wz22 pz23 => ?_)
  replace hB := pz23.below hB (by omega)
  replace hz5 := pz23.other hz5 (by omega)
  replace hz11 : At Wz22 Wz2.heap.size (.cells #[.int .i64 0, .int .i64 0, .int .i64 0, .int .i64 0, .slice none 0 0] 28 (0, 0)) := pz23.at_
  refine hK' _ _ ?_
  clear hK' K' pz23
  refine ls_ex (some 3) (.int .i64 3) rfl rfl (exec_assign _ rfl (.int .i64 3) rfl) ?_
  go_frame
  refine wpList_nil ?_
  go_wp2_with fail
  refine bodyPost_ret (results_at2 rfl _ _ Wz2.heap.size _ _ _ rfl _ rfl hz11 Try.underlying28 rfl 5 (by kernel_rfl) rfl) rfl ?_
  unfold ResH hZ hL
  rw [HC.out]
  exact ⟨_, rfl, Own.nil _ _, hB⟩
theorem specPlainMethod_c (p a b d : Int) (A : Option Addr) (c : Nat) (xs : List Int) (w : World) (hX : RdI w A xs) (hlen : xs.length ≤ 1048576) : Calls Try.prog 9 #[.agg #[.int .i64 p, .int .i64 a, .int .i64 b, .int .i64 d, .slice A xs.length c]] w (ResH w (hZ (plCode p a b d xs) p) (hZ (plCode p a b d xs) a) (hZ (plCode p a b d xs) b) (hZ (plCode p a b d xs) d) (hL (plCode p a b d xs) (plL b.toNat d.toNat xs xs.length)) (plCode p a b d xs)) := by
  rcases Bool.eq_false_or_eq_true (tenB p a b d xs) with hs | hs
  · obtain ⟨a, b, d, rfl, rfl, rfl⟩ := ten_nats hs
    have h0 := (ten_parts hs).2
    have hpos : 0 < xs.length := by rw [h0.2.2.2.1]; exact Nat.mul_pos (Nat.mul_pos (by omega) (by omega)) (by omega)
    obtain ⟨bB, oB, rfl, _⟩ := hX.at_ (i := 0) hpos
    exact specPlain_y p a b d bB oB c xs.length xs w hX rfl hs
  · exact specPlain_a p a b d A c xs w hX hlen hs
theorem implPlainMethod_c (p a b d : Int) (A : Option Addr) (c : Nat) (xs : List Int) (w : World) (hX : RdI w A xs) (hlen : xs.length ≤ 1048576) : Calls Try.prog 11 #[.agg #[.int .i64 p, .int .i64 a, .int .i64 b, .int .i64 d, .slice A xs.length c]] w (ResH w (hZ (plCode p a b d xs) p) (hZ (plCode p a b d xs) a) (hZ (plCode p a b d xs) b) (hZ (plCode p a b d xs) d) (hL (plCode p a b d xs) (plL b.toNat d.toNat xs xs.length)) (plCode p a b d xs)) := by
  rcases Bool.eq_false_or_eq_true (tenB p a b d xs) with hs | hs
  · obtain ⟨a, b, d, rfl, rfl, rfl⟩ := ten_nats hs
    have h0 := (ten_parts hs).2
    have hpos : 0 < xs.length := by rw [h0.2.2.2.1]; exact Nat.mul_pos (Nat.mul_pos (by omega) (by omega)) (by omega)
    obtain ⟨bB, oB, rfl, _⟩ := hX.at_ (i := 0) hpos
    rcases plCode_cases hs with hc | hc
    · exact implPlain_y p a b d bB oB c xs.length xs w hX rfl hs hc
    · exact implPlain_n p a b d bB oB c xs.length xs w hX rfl hs hc
  · exact implPlain_a p a b d A c xs w hX hlen hs
theorem bset {l : List Nat} (h : Bytes 27 l) {i v : Nat} (hv : v < 256) : Bytes 27 (l.set i v) := ⟨by rw [List.length_set, h.len], fun n hn => by
  rcases List.mem_or_eq_of_mem_set hn with h1 | rfl
  · exact h.2 n h1
  · exact hv⟩
theorem plP_bytes {b d t : Nat} {x : Int} (hx : x.toNat < 256) : Bytes 27 (plP b d x t) :=
  bset (bset (bset ⟨by simp, fun n hn => by have := (List.mem_replicate.1 hn).2; omega⟩ hx) (by omega)) (by omega)
theorem pl_ok {p a b d : Int} {xs : List Int} : (∀ r ∈ hL (plCode p a b d xs) (plL b.toNat d.toNat xs xs.length), Bytes 27 r) ∧ (hL (plCode p a b d xs) (plL b.toNat d.toNat xs xs.length)).length ≤ 1048576 := by
  unfold hL
  split
  · next hc =>
    unfold plCode at hc
    split at hc
    · next hs =>
      split at hc
      · next hl =>
        refine ⟨fun r hr => ?_, by omega⟩
        obtain ⟨A, B, D, rfl, rfl, rfl⟩ := ten_nats hs
        have hp5 := prime_le5 (ten_parts hs).1
        have hn := (ten_parts hs).2.2.2.2.2
        obtain ⟨t, ht, rfl⟩ := List.mem_map.1 hr
        have h1 := List.mem_range.1 (List.mem_filter.1 ht).1
        have h2 := inB_of hn (List.getElem?_eq_getElem h1)
        rw [List.getElem?_eq_getElem h1, Option.getD_some]
        exact plP_bytes (by omega)
      · omega
    · omega
  · exact ⟨fun r hr => by simp at hr, by simp⟩
end Go.Proofs.Ytdbcgbbokodndaa
