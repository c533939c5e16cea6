/-
  spec.l10Merge. (Made by mkmrb.py.)
-/
import Derived.Test.YtopdfblfhdooaaaMra
namespace Go.Proofs.Ytopdfblfhdooaaa
open Go.RowKit
set_option maxRecDepth 100000
theorem cut_worldG {n : Nat} {w wx : World} (_ : Below n w wx) : ∃ x : World, x = wx := ⟨_, rfl⟩
theorem wp_append_rdN {o : Oper} {a : Act} {w : World} {K : Act → World → Prop} {Q : Exit → Act → World → Prop} (d : Option Tmp) (hd : o.dst = d) (s x : Operand) (ho : o.op = .call { callee := .builtin .append, args := #[s, x], argTypes := #[26, 26] })
    {lo : Nat} (v : Value) (qs rs : List (List Nat)) (n : Nat) (hn : rs.length = n) (hs : a.eval s = v) (hown : Own w lo v qs) (A : Option Addr) (c : Nat) (hx : a.eval x = .slice A n c) (hr : Rd w A rs) (hc : A = none → c = 0) (hle : qs.length + rs.length ≤ 1000000) (hlo : lo ≤ w.heap.size)
    (h : ∀ v' w', Own w' lo v' (qs ++ rs) → w.grownBy w' v.ownBlock → K (a.put d v') w') : Oper.wp Try.prog o a w K Q := by
  subst hn
  exact wp_append_rd d hd s x ho v qs rs hs hown A c hx hr hc hle hlo h
theorem Rd.take9 {w : World} {A : Option Addr} {qs : List (List Nat)} (h : Rd w A qs) (i : Nat) : Rd w A (qs.take i) := by
  refine ⟨fun q hq => h.1 q (List.mem_of_mem_take hq), ?_⟩
  rcases h.2 with rfl | ⟨b, off, hA, hc⟩
  · left; simp
  · refine .inr ⟨b, off, hA, fun j q hj => hc j q ?_⟩
    rw [List.getElem?_take] at hj
    split at hj
    · exact hj
    · cases hj
theorem Rd.dropE {w : World} {g OE l : Nat} {qs : List (List Nat)} (h : Rd w (some ⟨g, 0, none⟩) qs) (hO : qs.length ≤ l ∨ OE = l * 27) : Rd w (some ⟨g, OE, none⟩) (qs.drop l) := by
  refine ⟨fun q hq => h.1 q (List.mem_of_mem_drop hq), ?_⟩
  rcases hO with e | rfl
  · left
    exact List.drop_eq_nil_of_le e
  · rcases h.2 with rfl | ⟨b, off, hA, hc⟩
    · left; simp
    · simp only [Option.some.injEq, Addr.mk.injEq] at hA
      obtain ⟨rfl, rfl, _⟩ := hA
      refine .inr ⟨g, l * 27, rfl, fun j q hj t ht => ?_⟩
      rw [List.getElem?_drop] at hj
      have := hc (l + j) q hj t ht
      rw [show 0 + (l + j) * 27 + t = l * 27 + j * 27 + t by rw [Nat.add_mul]; omega] at this
      exact this
theorem mg_list {qs : List (List Nat)} {i k : Nat} {one : List Nat} (h : i < k) : (qs.take k).set i one ++ qs.drop (k + 1) = (qs.set i one).eraseIdx k := by
  rw [List.eraseIdx_eq_take_drop_succ, List.take_set, List.drop_set_of_lt (by omega)]
theorem l10DropN_c (A : Option Addr) (c : Nat) (qs : List (List Nat)) (N : Nat) (hN : qs.length = N) (w : World) (hR : Rd w A qs) (hlen : N ≤ 1000) :
    Calls Try.prog 73 #[.slice A N c] w (fun e w' => ∃ v, e = .returned v ∧ Own w' w.heap.size v (qs.filter nzB) ∧ Below w.heap.size w w') := by
  subst hN
  exact l10Drop_c A c qs w hR hlen
attribute [local irreducible] wpList
theorem alMs__3_impl_Form {o : Oper} {a : Act} {w : World} (ho : o.op = .alloc 100) : (execOp a.eval o).run Try.prog w = .ok (.value (.pointer (some ⟨w.heap.size, 0, none⟩))) (w.alloc (.cells (u8s (List.replicate 27 0)) 100 (0, 0))) := by
  unfold execOp
  rw [ho]
  kernel_rfl
set_option maxHeartbeats 6400000 in
theorem l10Merge_none (p : Int) (lo : Nat) (A : Option Addr) (c L : Nat) (qs : List (List Nat)) (w : World) (hp : 2 ≤ p ∧ p ≤ 5) (ho0 : Own w lo (.slice A L c) qs) (hb : ∀ q ∈ qs, Bytes 27 q) (hlen : L ≤ 500) (hL : qs.length = L) (hn : unN (mgF p) qs = none) :
    Calls Try.prog 44 #[.int .i64 p, .slice A L c] w (fun e w' => e = .returned (.tuple #[.slice A L c, .bool false]) ∧ Below w.heap.size w w') := by
  have hB := Below.refl w.heap.size w
  have _u0 := hp
  clear _u0
  have HCb := Lib.hid hb
  have HL := Lib.hid hL
  have HN0 := Lib.hid hn
  clear hb hL hn
  go_enter Try.func44, Try.ntmps44
  go_upto_region 0 with (fail)
  refine wp_region_lit ?_
  refine ls_ex (some 4) (.slice none 0 0) rfl rfl (exec_assign _ rfl (.slice none 0 0) rfl) ?_
  go_frame
  refine ls_ex (some 5) (.bool false) rfl rfl (exec_assign _ rfl (.bool false) rfl) ?_
  go_frame
  refine wpList_nil ?_
  go_upto_region 1 with (fail)
  refine wp_region_lit ?_
  refine ls_ex (some 6) (.int .i64 0) rfl rfl (exec_assign _ rfl (.int .i64 0) rfl) ?_
  go_frame
  refine wpList_nil ?_
  go_wp2_with fail
  go_loopw [6] (fun s6 wr => ∃ i : Nat, i ≤ L ∧ s6 = .int .i64 i ∧ Hid (unI (mgF p) qs (L - i) = unN (mgF p) qs) ∧ Below w.heap.size w wr) (fun s6 _ => L - (intOf s6).toNat)
  case atStart => exact ⟨0, by omega, rfl, Lib.hid (by rw [Nat.sub_zero, ← HL.out]; rfl), hB⟩
  case round =>
    clear hB
    obtain ⟨i, hle, rfl, HN, hB⟩ := hrel
    by_cases hlt : i < L
    · have hi : i < qs.length := by rw [HL.out]; exact hlt
      obtain ⟨g, rfl, hg⟩ := ho0.blk (by omega)
      obtain ⟨q, hq⟩ : ∃ z9, qs[i]? = some z9 := ⟨_, List.getElem?_eq_getElem hi⟩
      have HQ := Lib.hid hq
      have HQb := Lib.hid (HCb.out q (List.mem_of_getElem? hq))
      clear hq
      have HN2 : Hid ((unK (mgF p) qs i (L - (i + 1))).or (unI (mgF p) qs (L - (i + 1))) = unN (mgF p) qs) := Lib.hid (by rw [← HN.out]; have h9 := unI_step (un := mgF p) hi; rw [HL.out] at h9; exact h9.symm)
      go_upto_region 2 with (fail)
      refine wp_region_lit ?_
      refine ls_ex (some 12) (.int .i64 i) rfl rfl (exec_move _ rfl (.int .i64 i) rfl) ?_
      go_frame
      refine ls_ex (some 13) (.slice (some ⟨g, 0, none⟩) L c) rfl rfl (exec_move _ rfl (.slice (some ⟨g, 0, none⟩) L c) rfl) ?_
      go_frame
      refine ls_ex (some 14) (.int .i64 L) rfl rfl (exec_len _ 26 53 rfl ((some ⟨g, 0, none⟩)) L c rfl Try.underlying26) ?_
      go_frame
      refine ls_ex (some 15) (.bool true) rfl rfl (exec_lss _ _ _ _ rfl i L rfl rfl true (decide_eq_true (by omega))) ?_
      go_frame
      refine wpList_nil ?_
      go_upto_region 4 with (fail)
      refine wp_region_lit ?_
      refine ls_ex (some 18) (.int .i64 i) rfl rfl (exec_move _ rfl (.int .i64 i) rfl) ?_
      go_frame
      refine ls_ex (some 19) (.int .i64 (i + 1)) rfl rfl (exec_add _ _ _ _ rfl i 1 (i + 1) rfl rfl (IntWalk.i64_in _ (by omega))) ?_
      go_frame
      refine ls_ex (some 7) (.int .i64 (i + 1)) rfl rfl (exec_assign _ rfl (.int .i64 (i + 1)) rfl) ?_
      go_frame
      refine wpList_nil ?_
      go_wp2_with fail
      obtain ⟨we, rfl⟩ : ∃ x : World, x = wr := ⟨_, rfl⟩
      go_loopw [7] (fun s7 wr => ∃ k : Nat, i < k ∧ k ≤ L ∧ s7 = .int .i64 k ∧ Hid ((unK (mgF p) qs i (L - k)).or (unI (mgF p) qs (L - (i + 1))) = unN (mgF p) qs) ∧ Below w.heap.size w wr) (fun s7 _ => L - (intOf s7).toNat)
      case atStart => exact ⟨i + 1, by omega, by omega, by go_num, HN2, hB⟩
      case round =>
        clear hB
        obtain ⟨k, hik, hk, rfl, HK, hB⟩ := hrel
        by_cases hlt2 : k < L
        · have hkc : k < qs.length := by rw [HL.out]; exact hlt2
          obtain ⟨r, hr⟩ : ∃ z9, qs[k]? = some z9 := ⟨_, List.getElem?_eq_getElem hkc⟩
          have HR := Lib.hid hr
          have HRb := Lib.hid (HCb.out r (List.mem_of_getElem? hr))
          clear hr
          rcases hth : thO q r with _ | wd
          · have HTh := Lib.hid hth
            clear hth
            have Hu : Hid (mgF p q r = none) := Lib.hid (by rw [mgF_th, HTh.out]; rfl)
            have HK2 : Hid ((unK (mgF p) qs i (L - (k + 1))).or (unI (mgF p) qs (L - (i + 1))) = unN (mgF p) qs) := Lib.hid (by have h9 := HK.out; rw [show L - k = qs.length - k by rw [HL.out], unK_none HQ.out HR.out Hu.out, HL.out] at h9; exact h9)
            go_upto_region 5 with (fail)
            refine wp_region_lit ?_
            refine ls_ex (some 20) (.int .i64 k) rfl rfl (exec_move _ rfl (.int .i64 k) rfl) ?_
            go_frame
            refine ls_ex (some 21) (.slice (some ⟨g, 0, none⟩) L c) rfl rfl (exec_move _ rfl (.slice (some ⟨g, 0, none⟩) L c) rfl) ?_
            go_frame
            refine ls_ex (some 22) (.int .i64 L) rfl rfl (exec_len _ 26 53 rfl ((some ⟨g, 0, none⟩)) L c rfl Try.underlying26) ?_
            go_frame
            refine ls_ex (some 23) (.bool true) rfl rfl (exec_lss _ _ _ _ rfl k L rfl rfl true (decide_eq_true (by omega))) ?_
            go_frame
            refine wpList_nil ?_
            go_upto_region 7 with (fail)
            refine wp_region_y (zs := []) (S := fun w' => Below w.heap.size w w') (S2 := fun w' => True) (by kernel_rfl) ?_
            change wpAnyY _ _ _ _ _ _ _ _ _ _ (World.drew _)
            generalize hwdz1 : World.drew _ = wdz1
            replace hB : Below w.heap.size w wdz1 := by rw [← hwdz1]; exact hB.drew
            clear hwdz1
            refine y_yield 0 (some 26) (.slice (some ⟨g, 0, none⟩) L c) rfl (by kernel_rfl) (by kernel_rfl) (by kernel_rfl) (fun _ _ _ h => h) rfl rfl hB (fun w' h' => exec_move _ rfl (.slice (some ⟨g, 0, none⟩) L c) rfl) ?_
            go_frame
            refine y_yield 1 (some 27) (.int .i64 i) rfl (by kernel_rfl) (by kernel_rfl) (by kernel_rfl) (fun _ _ _ h => h) rfl rfl hB (fun w' h' => exec_move _ rfl (.int .i64 i) rfl) ?_
            go_frame
            refine y_yield 2 (some 28) (.pointer (some ⟨g, i * 27, none⟩)) rfl (by kernel_rfl) (by kernel_rfl) (by kernel_rfl) (fun _ _ _ h => h) rfl rfl hB (fun w' h' => exec_ix0 _ 53 _ _ rfl g L c i 27 rfl rfl Try.underlying26 (by kernel_rfl) (by omega)) ?_
            go_frame
            refine y_yield 3 (some 29) (.agg (u8s (q))) rfl (by kernel_rfl) (by kernel_rfl) (by kernel_rfl) (fun _ _ _ h => h) rfl rfl hB (fun w' h' => exec_load_cells 53 _ rfl g (i * 27) rfl (q) _ 27 (Own.c27u (ho0.below h') HCb.out HQ.out) Try.underlying53 rfl (by kernel_rfl) (HQb.out.len)) ?_
            go_frame
            refine y_yield 4 (some 30) (.slice (some ⟨g, 0, none⟩) L c) rfl (by kernel_rfl) (by kernel_rfl) (by kernel_rfl) (fun _ _ _ h => h) rfl rfl hB (fun w' h' => exec_move _ rfl (.slice (some ⟨g, 0, none⟩) L c) rfl) ?_
            go_frame
            refine y_yield 5 (some 31) (.int .i64 k) rfl (by kernel_rfl) (by kernel_rfl) (by kernel_rfl) (fun _ _ _ h => h) rfl rfl hB (fun w' h' => exec_move _ rfl (.int .i64 k) rfl) ?_
            go_frame
            refine y_yield 6 (some 32) (.pointer (some ⟨g, k * 27, none⟩)) rfl (by kernel_rfl) (by kernel_rfl) (by kernel_rfl) (fun _ _ _ h => h) rfl rfl hB (fun w' h' => exec_ix0 _ 53 _ _ rfl g L c k 27 rfl rfl Try.underlying26 (by kernel_rfl) (by omega)) ?_
            go_frame
            refine y_yield 7 (some 33) (.agg (u8s (r))) rfl (by kernel_rfl) (by kernel_rfl) (by kernel_rfl) (fun _ _ _ h => h) rfl rfl hB (fun w' h' => exec_load_cells 53 _ rfl g (k * 27) rfl (r) _ 27 (Own.c27u (ho0.below h') HCb.out HR.out) Try.underlying53 rfl (by kernel_rfl) (HRb.out.len)) ?_
            go_frame
            refine y_oper 8 (by kernel_rfl) rfl rfl (fun K' hK' => ?_)
            have lz4 := hB.size
            refine wp_call2 (some 34) rfl 69 _ _ _ rfl (fun args w => by kernel_rfl) _ _ rfl rfl _ (l10Third_c q r HQb.out HRb.out _) (fun e Wz2 h => ?_)
            obtain ⟨rfl, bz3⟩ := h
            replace hB := below_after hB bz3
            rw [HTh.out]
            clear bz3
            refine ⟨_, rfl, ?_⟩
            refine hK' _ _ hB (fun _ => trivial) ?_
            clear hK' K'
            go_frame
            refine y_oper 9 (by kernel_rfl) rfl rfl (fun K' hK' => ?_)
            refine wp_exec (some 8) rfl (.int .i64 (-1)) (exec_assign _ rfl (.int .i64 (-1)) rfl) ?_
            refine hK' _ _ hB (fun _ => trivial) ?_
            clear hK' K'
            go_frame
            refine y_done (by kernel_rfl) ?_ _
            go_upto_region 8 with (fail)
            refine wp_region_lit ?_
            refine ls_ex (some 35) (.int .i64 (-1)) rfl rfl (exec_move _ rfl (.int .i64 (-1)) rfl) ?_
            go_frame
            refine ls_ex (some 36) (.bool true) rfl rfl (exec_lss _ _ _ _ rfl ((-1)) 0 rfl rfl true (decide_eq_true (by omega))) ?_
            go_frame
            refine wpList_nil ?_
            go_upto_region 6 with (fail)
            refine wp_region_lit ?_
            refine ls_ex (some 24) (.int .i64 k) rfl rfl (exec_move _ rfl (.int .i64 k) rfl) ?_
            go_frame
            refine ls_ex (some 25) (.int .i64 (k + 1)) rfl rfl (exec_add _ _ _ _ rfl k 1 (k + 1) rfl rfl (IntWalk.i64_in _ (by omega))) ?_
            go_frame
            refine ls_ex (some 7) (.int .i64 (k + 1)) rfl rfl (exec_assign _ rfl (.int .i64 (k + 1)) rfl) ?_
            go_frame
            refine wpList_nil ?_
            go_wp2_with fail
            go_roundw
            case rel => exact ⟨k + 1, by omega, by omega, by go_num, HK2, hB⟩
            case measure => simp [intOf]; omega
          · have HTh := Lib.hid hth
            have hw3 := thO_lt hth
            clear hth
            obtain ⟨F, hF⟩ : ∃ z9, adF p 1 (facQ q wd) (facQ r wd) = z9 := ⟨_, rfl⟩
            have HFb : Hid (Bytes 9 F) := Lib.hid (by rw [← hF]; exact adF_bytes _ _ _ (by omega) (by omega))
            obtain ⟨one, hone⟩ : ∃ z9, withQ q wd F = z9 := ⟨_, rfl⟩
            have HOb : Hid (Bytes 27 one) := Lib.hid (by rw [← hone]; exact withQ_bytes HQb.out HFb.out hw3)
            have HW : Hid (over q (0 + wd * 9) F = one) := Lib.hid (by rw [Nat.zero_add]; exact hone)
            have Hu : Hid (mgF p q r = some one) := Lib.hid (by rw [mgF_th, HTh.out, Option.map_some, hF, hone])
            have HF := Lib.hid hF
            clear hF hone
            have HX : Hid (unN (mgF p) qs = some (stepL qs i k one)) := Lib.hid (by have h9 := HK.out; rw [show L - k = qs.length - k by rw [HL.out], unK_some HQ.out HR.out Hu.out] at h9; exact h9.symm)
            exact absurd (HX.out.symm.trans HN0.out) (by simp)
        · have HNn : Hid (unI (mgF p) qs (L - (i + 1)) = unN (mgF p) qs) := Lib.hid (by have h9 := HK.out; rw [show L - k = 0 by omega] at h9; exact h9)
          go_upto_region 5 with (fail)
          refine wp_region_lit ?_
          refine ls_ex (some 20) (.int .i64 k) rfl rfl (exec_move _ rfl (.int .i64 k) rfl) ?_
          go_frame
          refine ls_ex (some 21) (.slice (some ⟨g, 0, none⟩) L c) rfl rfl (exec_move _ rfl (.slice (some ⟨g, 0, none⟩) L c) rfl) ?_
          go_frame
          refine ls_ex (some 22) (.int .i64 L) rfl rfl (exec_len _ 26 53 rfl ((some ⟨g, 0, none⟩)) L c rfl Try.underlying26) ?_
          go_frame
          refine ls_ex (some 23) (.bool false) rfl rfl (exec_lss _ _ _ _ rfl k L rfl rfl false (decide_eq_false (by omega))) ?_
          go_frame
          refine wpList_nil ?_
          go_upto_region 3 with (fail)
          refine wp_region_lit ?_
          refine ls_ex (some 16) (.int .i64 i) rfl rfl (exec_move _ rfl (.int .i64 i) rfl) ?_
          go_frame
          refine ls_ex (some 17) (.int .i64 (i + 1)) rfl rfl (exec_add _ _ _ _ rfl i 1 (i + 1) rfl rfl (IntWalk.i64_in _ (by omega))) ?_
          go_frame
          refine ls_ex (some 6) (.int .i64 (i + 1)) rfl rfl (exec_assign _ rfl (.int .i64 (i + 1)) rfl) ?_
          go_frame
          refine wpList_nil ?_
          go_wp2_with fail
          go_roundw
          case rel => exact ⟨i + 1, by omega, by go_num, HNn, hB⟩
          case measure => simp [intOf]; omega
    · go_upto_region 2 with (fail)
      refine wp_region_lit ?_
      refine ls_ex (some 12) (.int .i64 i) rfl rfl (exec_move _ rfl (.int .i64 i) rfl) ?_
      go_frame
      refine ls_ex (some 13) (.slice A L c) rfl rfl (exec_move _ rfl (.slice A L c) rfl) ?_
      go_frame
      refine ls_ex (some 14) (.int .i64 L) rfl rfl (exec_len _ 26 53 rfl A L c rfl Try.underlying26) ?_
      go_frame
      refine ls_ex (some 15) (.bool false) rfl rfl (exec_lss _ _ _ _ rfl i L rfl rfl false (decide_eq_false (by omega))) ?_
      go_frame
      refine wpList_nil ?_
      go_upto_region 14 with (fail)
      refine wp_region_lit ?_
      refine ls_ex (some 74) (.slice A L c) rfl rfl (exec_move _ rfl (.slice A L c) rfl) ?_
      go_frame
      refine ls_ex (some 4) (.slice A L c) rfl rfl (exec_assign _ rfl (.slice A L c) rfl) ?_
      go_frame
      refine ls_ex (some 5) (.bool false) rfl rfl (exec_assign _ rfl (.bool false) rfl) ?_
      go_frame
      refine wpList_nil ?_
      go_wp2_with fail
      go_ret2
      exact ⟨rfl, hB⟩
set_option maxHeartbeats 12800000 in
theorem l10Merge_some (p : Int) (lo : Nat) (A : Option Addr) (c L : Nat) (qs : List (List Nat)) (w : World) (hp : 2 ≤ p ∧ p ≤ 5) (ho0 : Own w lo (.slice A L c) qs) (hb : ∀ q ∈ qs, Bytes 27 q) (hlen : L ≤ 500) (hL : qs.length = L) (X : List (List Nat)) (hn : unN (mgF p) qs = some X) :
    Calls Try.prog 44 #[.int .i64 p, .slice A L c] w (fun e w' => ∃ v, e = .returned (.tuple #[v, .bool true]) ∧ Own w' w.heap.size v X ∧ Below w.heap.size w w') := by
  have hB := Below.refl w.heap.size w
  have HCb := Lib.hid hb
  have HL := Lib.hid hL
  have HN0 := Lib.hid hn
  clear hb hL hn
  go_enter Try.func44, Try.ntmps44
  go_upto_region 0 with (fail)
  refine wp_region_lit ?_
  refine ls_ex (some 4) (.slice none 0 0) rfl rfl (exec_assign _ rfl (.slice none 0 0) rfl) ?_
  go_frame
  refine ls_ex (some 5) (.bool false) rfl rfl (exec_assign _ rfl (.bool false) rfl) ?_
  go_frame
  refine wpList_nil ?_
  go_upto_region 1 with (fail)
  refine wp_region_lit ?_
  refine ls_ex (some 6) (.int .i64 0) rfl rfl (exec_assign _ rfl (.int .i64 0) rfl) ?_
  go_frame
  refine wpList_nil ?_
  go_wp2_with fail
  go_loopw [6] (fun s6 wr => ∃ i : Nat, i ≤ L ∧ s6 = .int .i64 i ∧ Hid (unI (mgF p) qs (L - i) = unN (mgF p) qs) ∧ Below w.heap.size w wr) (fun s6 _ => L - (intOf s6).toNat)
  case atStart => exact ⟨0, by omega, rfl, Lib.hid (by rw [Nat.sub_zero, ← HL.out]; rfl), hB⟩
  case round =>
    clear hB
    obtain ⟨i, hle, rfl, HN, hB⟩ := hrel
    by_cases hlt : i < L
    · have hi : i < qs.length := by rw [HL.out]; exact hlt
      obtain ⟨g, rfl, hg⟩ := ho0.blk (by omega)
      obtain ⟨q, hq⟩ : ∃ z9, qs[i]? = some z9 := ⟨_, List.getElem?_eq_getElem hi⟩
      have HQ := Lib.hid hq
      have HQb := Lib.hid (HCb.out q (List.mem_of_getElem? hq))
      clear hq
      have HN2 : Hid ((unK (mgF p) qs i (L - (i + 1))).or (unI (mgF p) qs (L - (i + 1))) = unN (mgF p) qs) := Lib.hid (by rw [← HN.out]; have h9 := unI_step (un := mgF p) hi; rw [HL.out] at h9; exact h9.symm)
      go_upto_region 2 with (fail)
      refine wp_region_lit ?_
      refine ls_ex (some 12) (.int .i64 i) rfl rfl (exec_move _ rfl (.int .i64 i) rfl) ?_
      go_frame
      refine ls_ex (some 13) (.slice (some ⟨g, 0, none⟩) L c) rfl rfl (exec_move _ rfl (.slice (some ⟨g, 0, none⟩) L c) rfl) ?_
      go_frame
      refine ls_ex (some 14) (.int .i64 L) rfl rfl (exec_len _ 26 53 rfl ((some ⟨g, 0, none⟩)) L c rfl Try.underlying26) ?_
      go_frame
      refine ls_ex (some 15) (.bool true) rfl rfl (exec_lss _ _ _ _ rfl i L rfl rfl true (decide_eq_true (by omega))) ?_
      go_frame
      refine wpList_nil ?_
      go_upto_region 4 with (fail)
      refine wp_region_lit ?_
      refine ls_ex (some 18) (.int .i64 i) rfl rfl (exec_move _ rfl (.int .i64 i) rfl) ?_
      go_frame
      refine ls_ex (some 19) (.int .i64 (i + 1)) rfl rfl (exec_add _ _ _ _ rfl i 1 (i + 1) rfl rfl (IntWalk.i64_in _ (by omega))) ?_
      go_frame
      refine ls_ex (some 7) (.int .i64 (i + 1)) rfl rfl (exec_assign _ rfl (.int .i64 (i + 1)) rfl) ?_
      go_frame
      refine wpList_nil ?_
      go_wp2_with fail
      obtain ⟨we, rfl⟩ : ∃ x : World, x = wr := ⟨_, rfl⟩
      go_loopw [7] (fun s7 wr => ∃ k : Nat, i < k ∧ k ≤ L ∧ s7 = .int .i64 k ∧ Hid ((unK (mgF p) qs i (L - k)).or (unI (mgF p) qs (L - (i + 1))) = unN (mgF p) qs) ∧ Below w.heap.size w wr) (fun s7 _ => L - (intOf s7).toNat)
      case atStart => exact ⟨i + 1, by omega, by omega, by go_num, HN2, hB⟩
      case round =>
        clear hB
        obtain ⟨k, hik, hk, rfl, HK, hB⟩ := hrel
        by_cases hlt2 : k < L
        · have hkc : k < qs.length := by rw [HL.out]; exact hlt2
          obtain ⟨r, hr⟩ : ∃ z9, qs[k]? = some z9 := ⟨_, List.getElem?_eq_getElem hkc⟩
          have HR := Lib.hid hr
          have HRb := Lib.hid (HCb.out r (List.mem_of_getElem? hr))
          clear hr
          rcases hth : thO q r with _ | wd
          · have HTh := Lib.hid hth
            clear hth
            have Hu : Hid (mgF p q r = none) := Lib.hid (by rw [mgF_th, HTh.out]; rfl)
            have HK2 : Hid ((unK (mgF p) qs i (L - (k + 1))).or (unI (mgF p) qs (L - (i + 1))) = unN (mgF p) qs) := Lib.hid (by have h9 := HK.out; rw [show L - k = qs.length - k by rw [HL.out], unK_none HQ.out HR.out Hu.out, HL.out] at h9; exact h9)
            go_upto_region 5 with (fail)
            refine wp_region_lit ?_
            refine ls_ex (some 20) (.int .i64 k) rfl rfl (exec_move _ rfl (.int .i64 k) rfl) ?_
            go_frame
            refine ls_ex (some 21) (.slice (some ⟨g, 0, none⟩) L c) rfl rfl (exec_move _ rfl (.slice (some ⟨g, 0, none⟩) L c) rfl) ?_
            go_frame
            refine ls_ex (some 22) (.int .i64 L) rfl rfl (exec_len _ 26 53 rfl ((some ⟨g, 0, none⟩)) L c rfl Try.underlying26) ?_
            go_frame
            refine ls_ex (some 23) (.bool true) rfl rfl (exec_lss _ _ _ _ rfl k L rfl rfl true (decide_eq_true (by omega))) ?_
            go_frame
            refine wpList_nil ?_
            go_upto_region 7 with (fail)
            refine wp_region_y (zs := []) (S := fun w' => Below w.heap.size w w') (S2 := fun w' => True) (by kernel_rfl) ?_
            change wpAnyY _ _ _ _ _ _ _ _ _ _ (World.drew _)
            generalize hwdz1 : World.drew _ = wdz1
            replace hB : Below w.heap.size w wdz1 := by rw [← hwdz1]; exact hB.drew
            clear hwdz1
            refine y_yield 0 (some 26) (.slice (some ⟨g, 0, none⟩) L c) rfl (by kernel_rfl) (by kernel_rfl) (by kernel_rfl) (fun _ _ _ h => h) rfl rfl hB (fun w' h' => exec_move _ rfl (.slice (some ⟨g, 0, none⟩) L c) rfl) ?_
            go_frame
            refine y_yield 1 (some 27) (.int .i64 i) rfl (by kernel_rfl) (by kernel_rfl) (by kernel_rfl) (fun _ _ _ h => h) rfl rfl hB (fun w' h' => exec_move _ rfl (.int .i64 i) rfl) ?_
            go_frame
            refine y_yield 2 (some 28) (.pointer (some ⟨g, i * 27, none⟩)) rfl (by kernel_rfl) (by kernel_rfl) (by kernel_rfl) (fun _ _ _ h => h) rfl rfl hB (fun w' h' => exec_ix0 _ 53 _ _ rfl g L c i 27 rfl rfl Try.underlying26 (by kernel_rfl) (by omega)) ?_
            go_frame
            refine y_yield 3 (some 29) (.agg (u8s (q))) rfl (by kernel_rfl) (by kernel_rfl) (by kernel_rfl) (fun _ _ _ h => h) rfl rfl hB (fun w' h' => exec_load_cells 53 _ rfl g (i * 27) rfl (q) _ 27 (Own.c27u (ho0.below h') HCb.out HQ.out) Try.underlying53 rfl (by kernel_rfl) (HQb.out.len)) ?_
            go_frame
            refine y_yield 4 (some 30) (.slice (some ⟨g, 0, none⟩) L c) rfl (by kernel_rfl) (by kernel_rfl) (by kernel_rfl) (fun _ _ _ h => h) rfl rfl hB (fun w' h' => exec_move _ rfl (.slice (some ⟨g, 0, none⟩) L c) rfl) ?_
            go_frame
            refine y_yield 5 (some 31) (.int .i64 k) rfl (by kernel_rfl) (by kernel_rfl) (by kernel_rfl) (fun _ _ _ h => h) rfl rfl hB (fun w' h' => exec_move _ rfl (.int .i64 k) rfl) ?_
            go_frame
            refine y_yield 6 (some 32) (.pointer (some ⟨g, k * 27, none⟩)) rfl (by kernel_rfl) (by kernel_rfl) (by kernel_rfl) (fun _ _ _ h => h) rfl rfl hB (fun w' h' => exec_ix0 _ 53 _ _ rfl g L c k 27 rfl rfl Try.underlying26 (by kernel_rfl) (by omega)) ?_
            go_frame
            refine y_yield 7 (some 33) (.agg (u8s (r))) rfl (by kernel_rfl) (by kernel_rfl) (by kernel_rfl) (fun _ _ _ h => h) rfl rfl hB (fun w' h' => exec_load_cells 53 _ rfl g (k * 27) rfl (r) _ 27 (Own.c27u (ho0.below h') HCb.out HR.out) Try.underlying53 rfl (by kernel_rfl) (HRb.out.len)) ?_
            go_frame
            refine y_oper 8 (by kernel_rfl) rfl rfl (fun K' hK' => ?_)
            have lz4 := hB.size
            refine wp_call2 (some 34) rfl 69 _ _ _ rfl (fun args w => by kernel_rfl) _ _ rfl rfl _ (l10Third_c q r HQb.out HRb.out _) (fun e Wz2 h => ?_)
            obtain ⟨rfl, bz3⟩ := h
            replace hB := below_after hB bz3
            rw [HTh.out]
            clear bz3
            refine ⟨_, rfl, ?_⟩
            refine hK' _ _ hB (fun _ => trivial) ?_
            clear hK' K'
            go_frame
            refine y_oper 9 (by kernel_rfl) rfl rfl (fun K' hK' => ?_)
            refine wp_exec (some 8) rfl (.int .i64 (-1)) (exec_assign _ rfl (.int .i64 (-1)) rfl) ?_
            refine hK' _ _ hB (fun _ => trivial) ?_
            clear hK' K'
            go_frame
            refine y_done (by kernel_rfl) ?_ _
            go_upto_region 8 with (fail)
            refine wp_region_lit ?_
            refine ls_ex (some 35) (.int .i64 (-1)) rfl rfl (exec_move _ rfl (.int .i64 (-1)) rfl) ?_
            go_frame
            refine ls_ex (some 36) (.bool true) rfl rfl (exec_lss _ _ _ _ rfl ((-1)) 0 rfl rfl true (decide_eq_true (by omega))) ?_
            go_frame
            refine wpList_nil ?_
            go_upto_region 6 with (fail)
            refine wp_region_lit ?_
            refine ls_ex (some 24) (.int .i64 k) rfl rfl (exec_move _ rfl (.int .i64 k) rfl) ?_
            go_frame
            refine ls_ex (some 25) (.int .i64 (k + 1)) rfl rfl (exec_add _ _ _ _ rfl k 1 (k + 1) rfl rfl (IntWalk.i64_in _ (by omega))) ?_
            go_frame
            refine ls_ex (some 7) (.int .i64 (k + 1)) rfl rfl (exec_assign _ rfl (.int .i64 (k + 1)) rfl) ?_
            go_frame
            refine wpList_nil ?_
            go_wp2_with fail
            go_roundw
            case rel => exact ⟨k + 1, by omega, by omega, by go_num, HK2, hB⟩
            case measure => simp [intOf]; omega
          · have HTh := Lib.hid hth
            have hw3 := thO_lt hth
            clear hth
            obtain ⟨F, hF⟩ : ∃ z9, adF p 1 (facQ q wd) (facQ r wd) = z9 := ⟨_, rfl⟩
            have HFb : Hid (Bytes 9 F) := Lib.hid (by rw [← hF]; exact adF_bytes _ _ _ (by omega) (by omega))
            obtain ⟨one, hone⟩ : ∃ z9, withQ q wd F = z9 := ⟨_, rfl⟩
            have HOb : Hid (Bytes 27 one) := Lib.hid (by rw [← hone]; exact withQ_bytes HQb.out HFb.out hw3)
            have HW : Hid (over q (0 + wd * 9) F = one) := Lib.hid (by rw [Nat.zero_add]; exact hone)
            have Hu : Hid (mgF p q r = some one) := Lib.hid (by rw [mgF_th, HTh.out, Option.map_some, hF, hone])
            have HF := Lib.hid hF
            clear hF hone
            have HX : Hid (unN (mgF p) qs = some (stepL qs i k one)) := Lib.hid (by have h9 := HK.out; rw [show L - k = qs.length - k by rw [HL.out], unK_some HQ.out HR.out Hu.out] at h9; exact h9.symm)
            have HRS : Hid (X = stepL qs i k one) := Lib.hid (by have h9 := HX.out.symm.trans HN0.out; simpa using h9.symm)
            have HTk : Hid ((qs.take k).length = k) := Lib.hid (by rw [List.length_take, HL.out]; omega)
            have HTi : Hid (i < (qs.take k).length) := Lib.hid (by rw [HTk.out]; exact hik)
            have HT27 : Hid (∀ q ∈ qs.take k, q.length = 27) := Lib.hid (fun x hx => (HCb.out x (List.mem_of_mem_take hx)).len)
            have HDl : Hid ((qs.drop (k + 1)).length = L - (k + 1)) := Lib.hid (by rw [List.length_drop, HL.out])
            have hcap := ho0.cap
            obtain ⟨OE, hOE⟩ : ∃ z9, (if c = k + 1 then 0 else (k + 1) * 27) = z9 := ⟨_, rfl⟩
            have HOE := Lib.hid hOE
            have HOE2 : Hid (qs.length ≤ k + 1 ∨ OE = (k + 1) * 27) := Lib.hid (by rw [← hOE, HL.out]; split <;> omega)
            clear hOE
            obtain ⟨LST, hLST⟩ : ∃ z9, (qs.take k).set i one ++ qs.drop (k + 1) = z9 := ⟨_, rfl⟩
            have HLST := Lib.hid hLST
            obtain ⟨N7, hN7⟩ : ∃ z9, LST.length = z9 := ⟨_, rfl⟩
            have hN7b : N7 ≤ L := by rw [← hN7, ← hLST, List.length_append, List.length_set, HTk.out, HDl.out]; omega
            have HN7 := Lib.hid hN7
            have HDr : Hid (LST.filter nzB = stepL qs i k one) := Lib.hid (by rw [← hLST, mg_list hik]; rfl)
            have HDb : Hid (∀ q ∈ LST, Bytes 27 q) := Lib.hid (fun x hx => by rw [← hLST] at hx; exact (List.mem_append.1 hx).elim (fun h => (List.mem_or_eq_of_mem_set h).elim (fun h => HCb.out x (List.mem_of_mem_take h)) (fun e => by subst e; exact HOb.out)) (fun h => HCb.out x (List.mem_of_mem_drop h)))
            clear hN7 hLST
            go_upto_region 5 with (fail)
            refine wp_region_lit ?_
            refine ls_ex (some 20) (.int .i64 k) rfl rfl (exec_move _ rfl (.int .i64 k) rfl) ?_
            go_frame
            refine ls_ex (some 21) (.slice (some ⟨g, 0, none⟩) L c) rfl rfl (exec_move _ rfl (.slice (some ⟨g, 0, none⟩) L c) rfl) ?_
            go_frame
            refine ls_ex (some 22) (.int .i64 L) rfl rfl (exec_len _ 26 53 rfl ((some ⟨g, 0, none⟩)) L c rfl Try.underlying26) ?_
            go_frame
            refine ls_ex (some 23) (.bool true) rfl rfl (exec_lss _ _ _ _ rfl k L rfl rfl true (decide_eq_true (by omega))) ?_
            go_frame
            refine wpList_nil ?_
            go_upto_region 7 with (fail)
            refine wp_region_y (zs := []) (S := fun w' => Below w.heap.size w w') (S2 := fun w' => True) (by kernel_rfl) ?_
            change wpAnyY _ _ _ _ _ _ _ _ _ _ (World.drew _)
            generalize hwdz5 : World.drew _ = wdz5
            replace hB : Below w.heap.size w wdz5 := by rw [← hwdz5]; exact hB.drew
            clear hwdz5
            refine y_yield 0 (some 26) (.slice (some ⟨g, 0, none⟩) L c) rfl (by kernel_rfl) (by kernel_rfl) (by kernel_rfl) (fun _ _ _ h => h) rfl rfl hB (fun w' h' => exec_move _ rfl (.slice (some ⟨g, 0, none⟩) L c) rfl) ?_
            go_frame
            refine y_yield 1 (some 27) (.int .i64 i) rfl (by kernel_rfl) (by kernel_rfl) (by kernel_rfl) (fun _ _ _ h => h) rfl rfl hB (fun w' h' => exec_move _ rfl (.int .i64 i) rfl) ?_
            go_frame
            refine y_yield 2 (some 28) (.pointer (some ⟨g, i * 27, none⟩)) rfl (by kernel_rfl) (by kernel_rfl) (by kernel_rfl) (fun _ _ _ h => h) rfl rfl hB (fun w' h' => exec_ix0 _ 53 _ _ rfl g L c i 27 rfl rfl Try.underlying26 (by kernel_rfl) (by omega)) ?_
            go_frame
            refine y_yield 3 (some 29) (.agg (u8s (q))) rfl (by kernel_rfl) (by kernel_rfl) (by kernel_rfl) (fun _ _ _ h => h) rfl rfl hB (fun w' h' => exec_load_cells 53 _ rfl g (i * 27) rfl (q) _ 27 (Own.c27u (ho0.below h') HCb.out HQ.out) Try.underlying53 rfl (by kernel_rfl) (HQb.out.len)) ?_
            go_frame
            refine y_yield 4 (some 30) (.slice (some ⟨g, 0, none⟩) L c) rfl (by kernel_rfl) (by kernel_rfl) (by kernel_rfl) (fun _ _ _ h => h) rfl rfl hB (fun w' h' => exec_move _ rfl (.slice (some ⟨g, 0, none⟩) L c) rfl) ?_
            go_frame
            refine y_yield 5 (some 31) (.int .i64 k) rfl (by kernel_rfl) (by kernel_rfl) (by kernel_rfl) (fun _ _ _ h => h) rfl rfl hB (fun w' h' => exec_move _ rfl (.int .i64 k) rfl) ?_
            go_frame
            refine y_yield 6 (some 32) (.pointer (some ⟨g, k * 27, none⟩)) rfl (by kernel_rfl) (by kernel_rfl) (by kernel_rfl) (fun _ _ _ h => h) rfl rfl hB (fun w' h' => exec_ix0 _ 53 _ _ rfl g L c k 27 rfl rfl Try.underlying26 (by kernel_rfl) (by omega)) ?_
            go_frame
            refine y_yield 7 (some 33) (.agg (u8s (r))) rfl (by kernel_rfl) (by kernel_rfl) (by kernel_rfl) (fun _ _ _ h => h) rfl rfl hB (fun w' h' => exec_load_cells 53 _ rfl g (k * 27) rfl (r) _ 27 (Own.c27u (ho0.below h') HCb.out HR.out) Try.underlying53 rfl (by kernel_rfl) (HRb.out.len)) ?_
            go_frame
            refine y_oper 8 (by kernel_rfl) rfl rfl (fun K' hK' => ?_)
            have lz8 := hB.size
            refine wp_call2 (some 34) rfl 69 _ _ _ rfl (fun args w => by kernel_rfl) _ _ rfl rfl _ (l10Third_c q r HQb.out HRb.out _) (fun e Wz6 h => ?_)
            obtain ⟨rfl, bz7⟩ := h
            replace hB := below_after hB bz7
            rw [HTh.out]
            clear bz7
            refine ⟨_, rfl, ?_⟩
            refine hK' _ _ hB (fun _ => trivial) ?_
            clear hK' K'
            go_frame
            refine y_oper 9 (by kernel_rfl) rfl rfl (fun K' hK' => ?_)
            refine wp_exec (some 8) rfl (.int .i64 (wd : Nat)) (exec_assign _ rfl (.int .i64 (wd : Nat)) rfl) ?_
            refine hK' _ _ hB (fun _ => trivial) ?_
            clear hK' K'
            go_frame
            refine y_done (by kernel_rfl) ?_ _
            go_upto_region 8 with (fail)
            refine wp_region_lit ?_
            refine ls_ex (some 35) (.int .i64 (wd : Nat)) rfl rfl (exec_move _ rfl (.int .i64 (wd : Nat)) rfl) ?_
            go_frame
            refine ls_ex (some 36) (.bool false) rfl rfl (exec_lss _ _ _ _ rfl ((wd : Nat)) 0 rfl rfl false (decide_eq_false (by omega))) ?_
            go_frame
            refine wpList_nil ?_
            go_upto_region 9 with (fail)
            go_cut [9, 10] from 37 to 47 (fun s9 s10 wx => ∃ B9 B10 : Nat, s9 = .pointer (some ⟨B9, 0, none⟩) ∧ s10 = .pointer (some ⟨B10, 0, none⟩) ∧ B9 ≠ B10 ∧ w.heap.size ≤ B9 ∧ w.heap.size ≤ B10 ∧ Below w.heap.size w wx ∧ At wx B9 (.cells (u8s (q)) 100 (0, 0)) ∧ At wx B10 (.cells (u8s (r)) 100 (0, 0)))
            case first =>
              refine wp_region_y (zs := []) (S := fun w' => Below w.heap.size w w') (S2 := fun w' => True) (by kernel_rfl) ?_
              change wpAnyY _ _ _ _ _ _ _ _ _ _ (World.drew _)
              generalize hwdz9 : World.drew _ = wdz9
              replace hB : Below w.heap.size w wdz9 := by rw [← hwdz9]; exact hB.drew
              clear hwdz9
              refine y_yield 0 (some 37) (.slice (some ⟨g, 0, none⟩) L c) rfl (by kernel_rfl) (by kernel_rfl) (by kernel_rfl) (fun _ _ _ h => h) rfl rfl hB (fun w' h' => exec_move _ rfl (.slice (some ⟨g, 0, none⟩) L c) rfl) ?_
              go_frame
              refine y_yield 1 (some 38) (.int .i64 i) rfl (by kernel_rfl) (by kernel_rfl) (by kernel_rfl) (fun _ _ _ h => h) rfl rfl hB (fun w' h' => exec_move _ rfl (.int .i64 i) rfl) ?_
              go_frame
              refine y_yield 2 (some 39) (.pointer (some ⟨g, i * 27, none⟩)) rfl (by kernel_rfl) (by kernel_rfl) (by kernel_rfl) (fun _ _ _ h => h) rfl rfl hB (fun w' h' => exec_ix0 _ 53 _ _ rfl g L c i 27 rfl rfl Try.underlying26 (by kernel_rfl) (by omega)) ?_
              go_frame
              refine y_yield 3 (some 40) (.agg (u8s (q))) rfl (by kernel_rfl) (by kernel_rfl) (by kernel_rfl) (fun _ _ _ h => h) rfl rfl hB (fun w' h' => exec_load_cells 53 _ rfl g (i * 27) rfl (q) _ 27 (Own.c27u (ho0.below h') HCb.out HQ.out) Try.underlying53 rfl (by kernel_rfl) (HQb.out.len)) ?_
              go_frame
              refine y_yield 5 (some 42) (.slice (some ⟨g, 0, none⟩) L c) rfl (by kernel_rfl) (by kernel_rfl) (by kernel_rfl) (fun _ _ _ h => h) rfl rfl hB (fun w' h' => exec_move _ rfl (.slice (some ⟨g, 0, none⟩) L c) rfl) ?_
              go_frame
              refine y_yield 6 (some 43) (.int .i64 k) rfl (by kernel_rfl) (by kernel_rfl) (by kernel_rfl) (fun _ _ _ h => h) rfl rfl hB (fun w' h' => exec_move _ rfl (.int .i64 k) rfl) ?_
              go_frame
              refine y_yield 7 (some 44) (.pointer (some ⟨g, k * 27, none⟩)) rfl (by kernel_rfl) (by kernel_rfl) (by kernel_rfl) (fun _ _ _ h => h) rfl rfl hB (fun w' h' => exec_ix0 _ 53 _ _ rfl g L c k 27 rfl rfl Try.underlying26 (by kernel_rfl) (by omega)) ?_
              go_frame
              refine y_yield 8 (some 45) (.agg (u8s (r))) rfl (by kernel_rfl) (by kernel_rfl) (by kernel_rfl) (fun _ _ _ h => h) rfl rfl hB (fun w' h' => exec_load_cells 53 _ rfl g (k * 27) rfl (r) _ 27 (Own.c27u (ho0.below h') HCb.out HR.out) Try.underlying53 rfl (by kernel_rfl) (HRb.out.len)) ?_
              go_frame
              refine y_three 4 10 11 (by kernel_rfl) rfl rfl rfl rfl rfl rfl (fun K' hK' => ?_) (fun K' hK' => ?_) (fun K' hK' => ?_)
              · have lz12 := hB.size
                refine wp_call1 (some 41) rfl 70 _ _ rfl (fun args w => by kernel_rfl) _ rfl _ (l10Forms_c q HQb.out _) (fun e Wz10 h => ?_)
                obtain ⟨rfl, bz11⟩ := h
                replace hB := below_after hB bz11
                clear bz11
                refine ⟨_, rfl, ?_⟩
                refine hK' _ _ hB (fun _ => trivial) ?_
                clear hK' K'
                go_frame
                refine y_three 9 10 11 (by kernel_rfl) rfl rfl rfl rfl rfl rfl (fun K' hK' => ?_) (fun K' hK' => ?_) (fun K' hK' => ?_)
                · have lz15 := hB.size
                  refine wp_call1 (some 46) rfl 70 _ _ rfl (fun args w => by kernel_rfl) _ rfl _ (l10Forms_c r HRb.out _) (fun e Wz13 h => ?_)
                  obtain ⟨rfl, bz14⟩ := h
                  replace hB := below_after hB bz14
                  clear bz14
                  refine ⟨_, rfl, ?_⟩
                  refine hK' _ _ hB (fun _ => trivial) ?_
                  clear hK' K'
                  go_frame
                  refine y_two 10 11 (by kernel_rfl) rfl rfl rfl rfl (fun K' hK' => ?_) (fun K' hK' => ?_)
                  · have lz16 := hB.size
                    refine wp_new (some 9) rfl (alMs__3_impl_Form rfl) (fun Wz17 nnz18 => ?_)
                    have bz19 := nnz18.below (Below.refl _ _) (Nat.le_refl _)
                    replace hB := below_after hB bz19
                    have hz20 : At Wz17 Wz13.heap.size (.cells (u8s (List.replicate 27 0)) 100 (0, 0)) := nnz18.at_
                    refine hK' _ _ hB (fun _ => trivial) ?_
                    clear hK' K' nnz18 bz19
                    go_frame
                    refine y_oper 11 (by kernel_rfl) rfl rfl (fun K' hK' => ?_)
                    have lz21 := hB.size
                    have lz22 := hz20.lt
                    refine wp_new (some 10) rfl (alMs__3_impl_Form rfl) (fun Wz23 nnz24 => ?_)
                    have bz25 := nnz24.below (Below.refl _ _) (Nat.le_refl _)
                    replace hB := below_after hB bz25
                    replace hz20 := hz20.after bz25
                    have hz26 : At Wz23 Wz17.heap.size (.cells (u8s (List.replicate 27 0)) 100 (0, 0)) := nnz24.at_
                    refine hK' _ _ hB (fun _ => trivial) ?_
                    clear hK' K' nnz24 bz25
                    go_frame
                    refine y_oper 12 (by kernel_rfl) rfl rfl (fun K' hK' => ?_)
                    refine wp_store_bytes 100 _ _ rfl rfl Wz13.heap.size rfl (q) rfl _ _ hz20 27 (by kernel_rfl) HQb.out.len (by simp) (fun Wz27 pz28 => ?_)
                    replace hB := pz28.below hB (by omega)
                    replace hz26 := pz28.other hz26 (by omega)
                    replace hz20 : At Wz27 Wz13.heap.size (.cells (u8s (q)) 100 (0, 0)) := pz28.at_
                    refine hK' _ _ hB (fun _ => trivial) ?_
                    clear hK' K' pz28
                    refine y_oper 13 (by kernel_rfl) rfl rfl (fun K' hK' => ?_)
                    refine wp_store_bytes 100 _ _ rfl rfl Wz17.heap.size rfl (r) rfl _ _ hz26 27 (by kernel_rfl) HRb.out.len (by simp) (fun Wz29 pz30 => ?_)
                    replace hB := pz30.below hB (by omega)
                    replace hz20 := pz30.other hz20 (by omega)
                    replace hz26 : At Wz29 Wz17.heap.size (.cells (u8s (r)) 100 (0, 0)) := pz30.at_
                    refine hK' _ _ hB (fun _ => trivial) ?_
                    clear hK' K' pz30
                    refine y_done (by kernel_rfl) ?_ _
                    go_wp2_with fail
                    go_meet
                    have hz9 := hB.size
                    exact ⟨_, _, rfl, rfl, by omega, by omega, by omega, hB, hz20, hz26⟩
                  · have lz31 := hB.size
                    refine wp_new (some 10) rfl (alMs__3_impl_Form rfl) (fun Wz32 nnz33 => ?_)
                    have bz34 := nnz33.below (Below.refl _ _) (Nat.le_refl _)
                    replace hB := below_after hB bz34
                    have hz35 : At Wz32 Wz13.heap.size (.cells (u8s (List.replicate 27 0)) 100 (0, 0)) := nnz33.at_
                    refine hK' _ _ hB (fun _ => trivial) ?_
                    clear hK' K' nnz33 bz34
                    go_frame
                    refine y_oper 10 (by kernel_rfl) rfl rfl (fun K' hK' => ?_)
                    have lz36 := hB.size
                    have lz37 := hz35.lt
                    refine wp_new (some 9) rfl (alMs__3_impl_Form rfl) (fun Wz38 nnz39 => ?_)
                    have bz40 := nnz39.below (Below.refl _ _) (Nat.le_refl _)
                    replace hB := below_after hB bz40
                    replace hz35 := hz35.after bz40
                    have hz41 : At Wz38 Wz32.heap.size (.cells (u8s (List.replicate 27 0)) 100 (0, 0)) := nnz39.at_
                    refine hK' _ _ hB (fun _ => trivial) ?_
                    clear hK' K' nnz39 bz40
                    go_frame
                    refine y_oper 12 (by kernel_rfl) rfl rfl (fun K' hK' => ?_)
                    refine wp_store_bytes 100 _ _ rfl rfl Wz32.heap.size rfl (q) rfl _ _ hz41 27 (by kernel_rfl) HQb.out.len (by simp) (fun Wz42 pz43 => ?_)
                    replace hB := pz43.below hB (by omega)
                    replace hz35 := pz43.other hz35 (by omega)
                    replace hz41 : At Wz42 Wz32.heap.size (.cells (u8s (q)) 100 (0, 0)) := pz43.at_
                    refine hK' _ _ hB (fun _ => trivial) ?_
                    clear hK' K' pz43
                    refine y_oper 13 (by kernel_rfl) rfl rfl (fun K' hK' => ?_)
                    refine wp_store_bytes 100 _ _ rfl rfl Wz13.heap.size rfl (r) rfl _ _ hz35 27 (by kernel_rfl) HRb.out.len (by simp) (fun Wz44 pz45 => ?_)
                    replace hB := pz45.below hB (by omega)
                    replace hz41 := pz45.other hz41 (by omega)
                    replace hz35 : At Wz44 Wz13.heap.size (.cells (u8s (r)) 100 (0, 0)) := pz45.at_
                    refine hK' _ _ hB (fun _ => trivial) ?_
                    clear hK' K' pz45
                    refine y_done (by kernel_rfl) ?_ _
                    go_wp2_with fail
                    go_meet
                    have hz9 := hB.size
                    exact ⟨_, _, rfl, rfl, by omega, by omega, by omega, hB, hz41, hz35⟩
                · have lz46 := hB.size
                  refine wp_new (some 9) rfl (alMs__3_impl_Form rfl) (fun Wz47 nnz48 => ?_)
                  have bz49 := nnz48.below (Below.refl _ _) (Nat.le_refl _)
                  replace hB := below_after hB bz49
                  have hz50 : At Wz47 Wz10.heap.size (.cells (u8s (List.replicate 27 0)) 100 (0, 0)) := nnz48.at_
                  refine hK' _ _ hB (fun _ => trivial) ?_
                  clear hK' K' nnz48 bz49
                  go_frame
                  refine y_two 9 11 (by kernel_rfl) rfl rfl rfl rfl (fun K' hK' => ?_) (fun K' hK' => ?_)
                  · have lz53 := hB.size
                    have lz54 := hz50.lt
                    refine wp_call1 (some 46) rfl 70 _ _ rfl (fun args w => by kernel_rfl) _ rfl _ (l10Forms_c r HRb.out _) (fun e Wz51 h => ?_)
                    obtain ⟨rfl, bz52⟩ := h
                    replace hB := below_after hB bz52
                    replace hz50 := hz50.after bz52
                    clear bz52
                    refine ⟨_, rfl, ?_⟩
                    refine hK' _ _ hB (fun _ => trivial) ?_
                    clear hK' K'
                    go_frame
                    refine y_oper 11 (by kernel_rfl) rfl rfl (fun K' hK' => ?_)
                    have lz55 := hB.size
                    have lz56 := hz50.lt
                    refine wp_new (some 10) rfl (alMs__3_impl_Form rfl) (fun Wz57 nnz58 => ?_)
                    have bz59 := nnz58.below (Below.refl _ _) (Nat.le_refl _)
                    replace hB := below_after hB bz59
                    replace hz50 := hz50.after bz59
                    have hz60 : At Wz57 Wz51.heap.size (.cells (u8s (List.replicate 27 0)) 100 (0, 0)) := nnz58.at_
                    refine hK' _ _ hB (fun _ => trivial) ?_
                    clear hK' K' nnz58 bz59
                    go_frame
                    refine y_oper 12 (by kernel_rfl) rfl rfl (fun K' hK' => ?_)
                    refine wp_store_bytes 100 _ _ rfl rfl Wz10.heap.size rfl (q) rfl _ _ hz50 27 (by kernel_rfl) HQb.out.len (by simp) (fun Wz61 pz62 => ?_)
                    replace hB := pz62.below hB (by omega)
                    replace hz60 := pz62.other hz60 (by omega)
                    replace hz50 : At Wz61 Wz10.heap.size (.cells (u8s (q)) 100 (0, 0)) := pz62.at_
                    refine hK' _ _ hB (fun _ => trivial) ?_
                    clear hK' K' pz62
                    refine y_oper 13 (by kernel_rfl) rfl rfl (fun K' hK' => ?_)
                    refine wp_store_bytes 100 _ _ rfl rfl Wz51.heap.size rfl (r) rfl _ _ hz60 27 (by kernel_rfl) HRb.out.len (by simp) (fun Wz63 pz64 => ?_)
                    replace hB := pz64.below hB (by omega)
                    replace hz50 := pz64.other hz50 (by omega)
                    replace hz60 : At Wz63 Wz51.heap.size (.cells (u8s (r)) 100 (0, 0)) := pz64.at_
                    refine hK' _ _ hB (fun _ => trivial) ?_
                    clear hK' K' pz64
                    refine y_done (by kernel_rfl) ?_ _
                    go_wp2_with fail
                    go_meet
                    have hz9 := hB.size
                    exact ⟨_, _, rfl, rfl, by omega, by omega, by omega, hB, hz50, hz60⟩
                  · have lz65 := hB.size
                    have lz66 := hz50.lt
                    refine wp_new (some 10) rfl (alMs__3_impl_Form rfl) (fun Wz67 nnz68 => ?_)
                    have bz69 := nnz68.below (Below.refl _ _) (Nat.le_refl _)
                    replace hB := below_after hB bz69
                    replace hz50 := hz50.after bz69
                    have hz70 : At Wz67 Wz47.heap.size (.cells (u8s (List.replicate 27 0)) 100 (0, 0)) := nnz68.at_
                    refine hK' _ _ hB (fun _ => trivial) ?_
                    clear hK' K' nnz68 bz69
                    go_frame
                    refine y_oper 9 (by kernel_rfl) rfl rfl (fun K' hK' => ?_)
                    have lz73 := hB.size
                    have lz74 := hz50.lt
                    have lz75 := hz70.lt
                    refine wp_call1 (some 46) rfl 70 _ _ rfl (fun args w => by kernel_rfl) _ rfl _ (l10Forms_c r HRb.out _) (fun e Wz71 h => ?_)
                    obtain ⟨rfl, bz72⟩ := h
                    replace hB := below_after hB bz72
                    replace hz50 := hz50.after bz72
                    replace hz70 := hz70.after bz72
                    clear bz72
                    refine ⟨_, rfl, ?_⟩
                    refine hK' _ _ hB (fun _ => trivial) ?_
                    clear hK' K'
                    go_frame
                    refine y_oper 12 (by kernel_rfl) rfl rfl (fun K' hK' => ?_)
                    refine wp_store_bytes 100 _ _ rfl rfl Wz10.heap.size rfl (q) rfl _ _ hz50 27 (by kernel_rfl) HQb.out.len (by simp) (fun Wz76 pz77 => ?_)
                    replace hB := pz77.below hB (by omega)
                    replace hz70 := pz77.other hz70 (by omega)
                    replace hz50 : At Wz76 Wz10.heap.size (.cells (u8s (q)) 100 (0, 0)) := pz77.at_
                    refine hK' _ _ hB (fun _ => trivial) ?_
                    clear hK' K' pz77
                    refine y_oper 13 (by kernel_rfl) rfl rfl (fun K' hK' => ?_)
                    refine wp_store_bytes 100 _ _ rfl rfl Wz47.heap.size rfl (r) rfl _ _ hz70 27 (by kernel_rfl) HRb.out.len (by simp) (fun Wz78 pz79 => ?_)
                    replace hB := pz79.below hB (by omega)
                    replace hz50 := pz79.other hz50 (by omega)
                    replace hz70 : At Wz78 Wz47.heap.size (.cells (u8s (r)) 100 (0, 0)) := pz79.at_
                    refine hK' _ _ hB (fun _ => trivial) ?_
                    clear hK' K' pz79
                    refine y_done (by kernel_rfl) ?_ _
                    go_wp2_with fail
                    go_meet
                    have hz9 := hB.size
                    exact ⟨_, _, rfl, rfl, by omega, by omega, by omega, hB, hz50, hz70⟩
                · have lz80 := hB.size
                  refine wp_new (some 10) rfl (alMs__3_impl_Form rfl) (fun Wz81 nnz82 => ?_)
                  have bz83 := nnz82.below (Below.refl _ _) (Nat.le_refl _)
                  replace hB := below_after hB bz83
                  have hz84 : At Wz81 Wz10.heap.size (.cells (u8s (List.replicate 27 0)) 100 (0, 0)) := nnz82.at_
                  refine hK' _ _ hB (fun _ => trivial) ?_
                  clear hK' K' nnz82 bz83
                  go_frame
                  refine y_two 9 10 (by kernel_rfl) rfl rfl rfl rfl (fun K' hK' => ?_) (fun K' hK' => ?_)
                  · have lz87 := hB.size
                    have lz88 := hz84.lt
                    refine wp_call1 (some 46) rfl 70 _ _ rfl (fun args w => by kernel_rfl) _ rfl _ (l10Forms_c r HRb.out _) (fun e Wz85 h => ?_)
                    obtain ⟨rfl, bz86⟩ := h
                    replace hB := below_after hB bz86
                    replace hz84 := hz84.after bz86
                    clear bz86
                    refine ⟨_, rfl, ?_⟩
                    refine hK' _ _ hB (fun _ => trivial) ?_
                    clear hK' K'
                    go_frame
                    refine y_oper 10 (by kernel_rfl) rfl rfl (fun K' hK' => ?_)
                    have lz89 := hB.size
                    have lz90 := hz84.lt
                    refine wp_new (some 9) rfl (alMs__3_impl_Form rfl) (fun Wz91 nnz92 => ?_)
                    have bz93 := nnz92.below (Below.refl _ _) (Nat.le_refl _)
                    replace hB := below_after hB bz93
                    replace hz84 := hz84.after bz93
                    have hz94 : At Wz91 Wz85.heap.size (.cells (u8s (List.replicate 27 0)) 100 (0, 0)) := nnz92.at_
                    refine hK' _ _ hB (fun _ => trivial) ?_
                    clear hK' K' nnz92 bz93
                    go_frame
                    refine y_oper 12 (by kernel_rfl) rfl rfl (fun K' hK' => ?_)
                    refine wp_store_bytes 100 _ _ rfl rfl Wz85.heap.size rfl (q) rfl _ _ hz94 27 (by kernel_rfl) HQb.out.len (by simp) (fun Wz95 pz96 => ?_)
                    replace hB := pz96.below hB (by omega)
                    replace hz84 := pz96.other hz84 (by omega)
                    replace hz94 : At Wz95 Wz85.heap.size (.cells (u8s (q)) 100 (0, 0)) := pz96.at_
                    refine hK' _ _ hB (fun _ => trivial) ?_
                    clear hK' K' pz96
                    refine y_oper 13 (by kernel_rfl) rfl rfl (fun K' hK' => ?_)
                    refine wp_store_bytes 100 _ _ rfl rfl Wz10.heap.size rfl (r) rfl _ _ hz84 27 (by kernel_rfl) HRb.out.len (by simp) (fun Wz97 pz98 => ?_)
                    replace hB := pz98.below hB (by omega)
                    replace hz94 := pz98.other hz94 (by omega)
                    replace hz84 : At Wz97 Wz10.heap.size (.cells (u8s (r)) 100 (0, 0)) := pz98.at_
                    refine hK' _ _ hB (fun _ => trivial) ?_
                    clear hK' K' pz98
                    refine y_done (by kernel_rfl) ?_ _
                    go_wp2_with fail
                    go_meet
                    have hz9 := hB.size
                    exact ⟨_, _, rfl, rfl, by omega, by omega, by omega, hB, hz94, hz84⟩
                  · have lz99 := hB.size
                    have lz100 := hz84.lt
                    refine wp_new (some 9) rfl (alMs__3_impl_Form rfl) (fun Wz101 nnz102 => ?_)
                    have bz103 := nnz102.below (Below.refl _ _) (Nat.le_refl _)
                    replace hB := below_after hB bz103
                    replace hz84 := hz84.after bz103
                    have hz104 : At Wz101 Wz81.heap.size (.cells (u8s (List.replicate 27 0)) 100 (0, 0)) := nnz102.at_
                    refine hK' _ _ hB (fun _ => trivial) ?_
                    clear hK' K' nnz102 bz103
                    go_frame
                    refine y_oper 9 (by kernel_rfl) rfl rfl (fun K' hK' => ?_)
                    have lz107 := hB.size
                    have lz108 := hz84.lt
                    have lz109 := hz104.lt
                    refine wp_call1 (some 46) rfl 70 _ _ rfl (fun args w => by kernel_rfl) _ rfl _ (l10Forms_c r HRb.out _) (fun e Wz105 h => ?_)
                    obtain ⟨rfl, bz106⟩ := h
                    replace hB := below_after hB bz106
                    replace hz84 := hz84.after bz106
                    replace hz104 := hz104.after bz106
                    clear bz106
                    refine ⟨_, rfl, ?_⟩
                    refine hK' _ _ hB (fun _ => trivial) ?_
                    clear hK' K'
                    go_frame
                    refine y_oper 12 (by kernel_rfl) rfl rfl (fun K' hK' => ?_)
                    refine wp_store_bytes 100 _ _ rfl rfl Wz81.heap.size rfl (q) rfl _ _ hz104 27 (by kernel_rfl) HQb.out.len (by simp) (fun Wz110 pz111 => ?_)
                    replace hB := pz111.below hB (by omega)
                    replace hz84 := pz111.other hz84 (by omega)
                    replace hz104 : At Wz110 Wz81.heap.size (.cells (u8s (q)) 100 (0, 0)) := pz111.at_
                    refine hK' _ _ hB (fun _ => trivial) ?_
                    clear hK' K' pz111
                    refine y_oper 13 (by kernel_rfl) rfl rfl (fun K' hK' => ?_)
                    refine wp_store_bytes 100 _ _ rfl rfl Wz10.heap.size rfl (r) rfl _ _ hz84 27 (by kernel_rfl) HRb.out.len (by simp) (fun Wz112 pz113 => ?_)
                    replace hB := pz113.below hB (by omega)
                    replace hz104 := pz113.other hz104 (by omega)
                    replace hz84 : At Wz112 Wz10.heap.size (.cells (u8s (r)) 100 (0, 0)) := pz113.at_
                    refine hK' _ _ hB (fun _ => trivial) ?_
                    clear hK' K' pz113
                    refine y_done (by kernel_rfl) ?_ _
                    go_wp2_with fail
                    go_meet
                    have hz9 := hB.size
                    exact ⟨_, _, rfl, rfl, by omega, by omega, by omega, hB, hz104, hz84⟩
              · have lz114 := hB.size
                refine wp_new (some 9) rfl (alMs__3_impl_Form rfl) (fun Wz115 nnz116 => ?_)
                have bz117 := nnz116.below (Below.refl _ _) (Nat.le_refl _)
                replace hB := below_after hB bz117
                have hz118 : At Wz115 wdz9.heap.size (.cells (u8s (List.replicate 27 0)) 100 (0, 0)) := nnz116.at_
                refine hK' _ _ hB (fun _ => trivial) ?_
                clear hK' K' nnz116 bz117
                go_frame
                refine y_two 4 11 (by kernel_rfl) rfl rfl rfl rfl (fun K' hK' => ?_) (fun K' hK' => ?_)
                · have lz121 := hB.size
                  have lz122 := hz118.lt
                  refine wp_call1 (some 41) rfl 70 _ _ rfl (fun args w => by kernel_rfl) _ rfl _ (l10Forms_c q HQb.out _) (fun e Wz119 h => ?_)
                  obtain ⟨rfl, bz120⟩ := h
                  replace hB := below_after hB bz120
                  replace hz118 := hz118.after bz120
                  clear bz120
                  refine ⟨_, rfl, ?_⟩
                  refine hK' _ _ hB (fun _ => trivial) ?_
                  clear hK' K'
                  go_frame
                  refine y_two 9 11 (by kernel_rfl) rfl rfl rfl rfl (fun K' hK' => ?_) (fun K' hK' => ?_)
                  · have lz125 := hB.size
                    have lz126 := hz118.lt
                    refine wp_call1 (some 46) rfl 70 _ _ rfl (fun args w => by kernel_rfl) _ rfl _ (l10Forms_c r HRb.out _) (fun e Wz123 h => ?_)
                    obtain ⟨rfl, bz124⟩ := h
                    replace hB := below_after hB bz124
                    replace hz118 := hz118.after bz124
                    clear bz124
                    refine ⟨_, rfl, ?_⟩
                    refine hK' _ _ hB (fun _ => trivial) ?_
                    clear hK' K'
                    go_frame
                    refine y_oper 11 (by kernel_rfl) rfl rfl (fun K' hK' => ?_)
                    have lz127 := hB.size
                    have lz128 := hz118.lt
                    refine wp_new (some 10) rfl (alMs__3_impl_Form rfl) (fun Wz129 nnz130 => ?_)
                    have bz131 := nnz130.below (Below.refl _ _) (Nat.le_refl _)
                    replace hB := below_after hB bz131
                    replace hz118 := hz118.after bz131
                    have hz132 : At Wz129 Wz123.heap.size (.cells (u8s (List.replicate 27 0)) 100 (0, 0)) := nnz130.at_
                    refine hK' _ _ hB (fun _ => trivial) ?_
                    clear hK' K' nnz130 bz131
                    go_frame
                    refine y_oper 12 (by kernel_rfl) rfl rfl (fun K' hK' => ?_)
                    refine wp_store_bytes 100 _ _ rfl rfl wdz9.heap.size rfl (q) rfl _ _ hz118 27 (by kernel_rfl) HQb.out.len (by simp) (fun Wz133 pz134 => ?_)
                    replace hB := pz134.below hB (by omega)
                    replace hz132 := pz134.other hz132 (by omega)
                    replace hz118 : At Wz133 wdz9.heap.size (.cells (u8s (q)) 100 (0, 0)) := pz134.at_
                    refine hK' _ _ hB (fun _ => trivial) ?_
                    clear hK' K' pz134
                    refine y_oper 13 (by kernel_rfl) rfl rfl (fun K' hK' => ?_)
                    refine wp_store_bytes 100 _ _ rfl rfl Wz123.heap.size rfl (r) rfl _ _ hz132 27 (by kernel_rfl) HRb.out.len (by simp) (fun Wz135 pz136 => ?_)
                    replace hB := pz136.below hB (by omega)
                    replace hz118 := pz136.other hz118 (by omega)
                    replace hz132 : At Wz135 Wz123.heap.size (.cells (u8s (r)) 100 (0, 0)) := pz136.at_
                    refine hK' _ _ hB (fun _ => trivial) ?_
                    clear hK' K' pz136
                    refine y_done (by kernel_rfl) ?_ _
                    go_wp2_with fail
                    go_meet
                    have hz9 := hB.size
                    exact ⟨_, _, rfl, rfl, by omega, by omega, by omega, hB, hz118, hz132⟩
                  · have lz137 := hB.size
                    have lz138 := hz118.lt
                    refine wp_new (some 10) rfl (alMs__3_impl_Form rfl) (fun Wz139 nnz140 => ?_)
                    have bz141 := nnz140.below (Below.refl _ _) (Nat.le_refl _)
                    replace hB := below_after hB bz141
                    replace hz118 := hz118.after bz141
                    have hz142 : At Wz139 Wz119.heap.size (.cells (u8s (List.replicate 27 0)) 100 (0, 0)) := nnz140.at_
                    refine hK' _ _ hB (fun _ => trivial) ?_
                    clear hK' K' nnz140 bz141
                    go_frame
                    refine y_oper 9 (by kernel_rfl) rfl rfl (fun K' hK' => ?_)
                    have lz145 := hB.size
                    have lz146 := hz118.lt
                    have lz147 := hz142.lt
                    refine wp_call1 (some 46) rfl 70 _ _ rfl (fun args w => by kernel_rfl) _ rfl _ (l10Forms_c r HRb.out _) (fun e Wz143 h => ?_)
                    obtain ⟨rfl, bz144⟩ := h
                    replace hB := below_after hB bz144
                    replace hz118 := hz118.after bz144
                    replace hz142 := hz142.after bz144
                    clear bz144
                    refine ⟨_, rfl, ?_⟩
                    refine hK' _ _ hB (fun _ => trivial) ?_
                    clear hK' K'
                    go_frame
                    refine y_oper 12 (by kernel_rfl) rfl rfl (fun K' hK' => ?_)
                    refine wp_store_bytes 100 _ _ rfl rfl wdz9.heap.size rfl (q) rfl _ _ hz118 27 (by kernel_rfl) HQb.out.len (by simp) (fun Wz148 pz149 => ?_)
                    replace hB := pz149.below hB (by omega)
                    replace hz142 := pz149.other hz142 (by omega)
                    replace hz118 : At Wz148 wdz9.heap.size (.cells (u8s (q)) 100 (0, 0)) := pz149.at_
                    refine hK' _ _ hB (fun _ => trivial) ?_
                    clear hK' K' pz149
                    refine y_oper 13 (by kernel_rfl) rfl rfl (fun K' hK' => ?_)
                    refine wp_store_bytes 100 _ _ rfl rfl Wz119.heap.size rfl (r) rfl _ _ hz142 27 (by kernel_rfl) HRb.out.len (by simp) (fun Wz150 pz151 => ?_)
                    replace hB := pz151.below hB (by omega)
                    replace hz118 := pz151.other hz118 (by omega)
                    replace hz142 : At Wz150 Wz119.heap.size (.cells (u8s (r)) 100 (0, 0)) := pz151.at_
                    refine hK' _ _ hB (fun _ => trivial) ?_
                    clear hK' K' pz151
                    refine y_done (by kernel_rfl) ?_ _
                    go_wp2_with fail
                    go_meet
                    have hz9 := hB.size
                    exact ⟨_, _, rfl, rfl, by omega, by omega, by omega, hB, hz118, hz142⟩
                · have lz152 := hB.size
                  have lz153 := hz118.lt
                  refine wp_new (some 10) rfl (alMs__3_impl_Form rfl) (fun Wz154 nnz155 => ?_)
                  have bz156 := nnz155.below (Below.refl _ _) (Nat.le_refl _)
                  replace hB := below_after hB bz156
                  replace hz118 := hz118.after bz156
                  have hz157 : At Wz154 Wz115.heap.size (.cells (u8s (List.replicate 27 0)) 100 (0, 0)) := nnz155.at_
                  refine hK' _ _ hB (fun _ => trivial) ?_
                  clear hK' K' nnz155 bz156
                  go_frame
                  refine y_oper 4 (by kernel_rfl) rfl rfl (fun K' hK' => ?_)
                  have lz160 := hB.size
                  have lz161 := hz118.lt
                  have lz162 := hz157.lt
                  refine wp_call1 (some 41) rfl 70 _ _ rfl (fun args w => by kernel_rfl) _ rfl _ (l10Forms_c q HQb.out _) (fun e Wz158 h => ?_)
                  obtain ⟨rfl, bz159⟩ := h
                  replace hB := below_after hB bz159
                  replace hz118 := hz118.after bz159
                  replace hz157 := hz157.after bz159
                  clear bz159
                  refine ⟨_, rfl, ?_⟩
                  refine hK' _ _ hB (fun _ => trivial) ?_
                  clear hK' K'
                  go_frame
                  refine y_oper 9 (by kernel_rfl) rfl rfl (fun K' hK' => ?_)
                  have lz165 := hB.size
                  have lz166 := hz118.lt
                  have lz167 := hz157.lt
                  refine wp_call1 (some 46) rfl 70 _ _ rfl (fun args w => by kernel_rfl) _ rfl _ (l10Forms_c r HRb.out _) (fun e Wz163 h => ?_)
                  obtain ⟨rfl, bz164⟩ := h
                  replace hB := below_after hB bz164
                  replace hz118 := hz118.after bz164
                  replace hz157 := hz157.after bz164
                  clear bz164
                  refine ⟨_, rfl, ?_⟩
                  refine hK' _ _ hB (fun _ => trivial) ?_
                  clear hK' K'
                  go_frame
                  refine y_oper 12 (by kernel_rfl) rfl rfl (fun K' hK' => ?_)
                  refine wp_store_bytes 100 _ _ rfl rfl wdz9.heap.size rfl (q) rfl _ _ hz118 27 (by kernel_rfl) HQb.out.len (by simp) (fun Wz168 pz169 => ?_)
                  replace hB := pz169.below hB (by omega)
                  replace hz157 := pz169.other hz157 (by omega)
                  replace hz118 : At Wz168 wdz9.heap.size (.cells (u8s (q)) 100 (0, 0)) := pz169.at_
                  refine hK' _ _ hB (fun _ => trivial) ?_
                  clear hK' K' pz169
                  refine y_oper 13 (by kernel_rfl) rfl rfl (fun K' hK' => ?_)
                  refine wp_store_bytes 100 _ _ rfl rfl Wz115.heap.size rfl (r) rfl _ _ hz157 27 (by kernel_rfl) HRb.out.len (by simp) (fun Wz170 pz171 => ?_)
                  replace hB := pz171.below hB (by omega)
                  replace hz118 := pz171.other hz118 (by omega)
                  replace hz157 : At Wz170 Wz115.heap.size (.cells (u8s (r)) 100 (0, 0)) := pz171.at_
                  refine hK' _ _ hB (fun _ => trivial) ?_
                  clear hK' K' pz171
                  refine y_done (by kernel_rfl) ?_ _
                  go_wp2_with fail
                  go_meet
                  have hz9 := hB.size
                  exact ⟨_, _, rfl, rfl, by omega, by omega, by omega, hB, hz118, hz157⟩
              · have lz172 := hB.size
                refine wp_new (some 10) rfl (alMs__3_impl_Form rfl) (fun Wz173 nnz174 => ?_)
                have bz175 := nnz174.below (Below.refl _ _) (Nat.le_refl _)
                replace hB := below_after hB bz175
                have hz176 : At Wz173 wdz9.heap.size (.cells (u8s (List.replicate 27 0)) 100 (0, 0)) := nnz174.at_
                refine hK' _ _ hB (fun _ => trivial) ?_
                clear hK' K' nnz174 bz175
                go_frame
                refine y_two 4 10 (by kernel_rfl) rfl rfl rfl rfl (fun K' hK' => ?_) (fun K' hK' => ?_)
                · have lz179 := hB.size
                  have lz180 := hz176.lt
                  refine wp_call1 (some 41) rfl 70 _ _ rfl (fun args w => by kernel_rfl) _ rfl _ (l10Forms_c q HQb.out _) (fun e Wz177 h => ?_)
                  obtain ⟨rfl, bz178⟩ := h
                  replace hB := below_after hB bz178
                  replace hz176 := hz176.after bz178
                  clear bz178
                  refine ⟨_, rfl, ?_⟩
                  refine hK' _ _ hB (fun _ => trivial) ?_
                  clear hK' K'
                  go_frame
                  refine y_two 9 10 (by kernel_rfl) rfl rfl rfl rfl (fun K' hK' => ?_) (fun K' hK' => ?_)
                  · have lz183 := hB.size
                    have lz184 := hz176.lt
                    refine wp_call1 (some 46) rfl 70 _ _ rfl (fun args w => by kernel_rfl) _ rfl _ (l10Forms_c r HRb.out _) (fun e Wz181 h => ?_)
                    obtain ⟨rfl, bz182⟩ := h
                    replace hB := below_after hB bz182
                    replace hz176 := hz176.after bz182
                    clear bz182
                    refine ⟨_, rfl, ?_⟩
                    refine hK' _ _ hB (fun _ => trivial) ?_
                    clear hK' K'
                    go_frame
                    refine y_oper 10 (by kernel_rfl) rfl rfl (fun K' hK' => ?_)
                    have lz185 := hB.size
                    have lz186 := hz176.lt
                    refine wp_new (some 9) rfl (alMs__3_impl_Form rfl) (fun Wz187 nnz188 => ?_)
                    have bz189 := nnz188.below (Below.refl _ _) (Nat.le_refl _)
                    replace hB := below_after hB bz189
                    replace hz176 := hz176.after bz189
                    have hz190 : At Wz187 Wz181.heap.size (.cells (u8s (List.replicate 27 0)) 100 (0, 0)) := nnz188.at_
                    refine hK' _ _ hB (fun _ => trivial) ?_
                    clear hK' K' nnz188 bz189
                    go_frame
                    refine y_oper 12 (by kernel_rfl) rfl rfl (fun K' hK' => ?_)
                    refine wp_store_bytes 100 _ _ rfl rfl Wz181.heap.size rfl (q) rfl _ _ hz190 27 (by kernel_rfl) HQb.out.len (by simp) (fun Wz191 pz192 => ?_)
                    replace hB := pz192.below hB (by omega)
                    replace hz176 := pz192.other hz176 (by omega)
                    replace hz190 : At Wz191 Wz181.heap.size (.cells (u8s (q)) 100 (0, 0)) := pz192.at_
                    refine hK' _ _ hB (fun _ => trivial) ?_
                    clear hK' K' pz192
                    refine y_oper 13 (by kernel_rfl) rfl rfl (fun K' hK' => ?_)
                    refine wp_store_bytes 100 _ _ rfl rfl wdz9.heap.size rfl (r) rfl _ _ hz176 27 (by kernel_rfl) HRb.out.len (by simp) (fun Wz193 pz194 => ?_)
                    replace hB := pz194.below hB (by omega)
                    replace hz190 := pz194.other hz190 (by omega)
                    replace hz176 : At Wz193 wdz9.heap.size (.cells (u8s (r)) 100 (0, 0)) := pz194.at_
                    refine hK' _ _ hB (fun _ => trivial) ?_
                    clear hK' K' pz194
                    refine y_done (by kernel_rfl) ?_ _
                    go_wp2_with fail
                    go_meet
                    have hz9 := hB.size
                    exact ⟨_, _, rfl, rfl, by omega, by omega, by omega, hB, hz190, hz176⟩
                  · have lz195 := hB.size
                    have lz196 := hz176.lt
                    refine wp_new (some 9) rfl (alMs__3_impl_Form rfl) (fun Wz197 nnz198 => ?_)
                    have bz199 := nnz198.below (Below.refl _ _) (Nat.le_refl _)
                    replace hB := below_after hB bz199
                    replace hz176 := hz176.after bz199
                    have hz200 : At Wz197 Wz177.heap.size (.cells (u8s (List.replicate 27 0)) 100 (0, 0)) := nnz198.at_
                    refine hK' _ _ hB (fun _ => trivial) ?_
                    clear hK' K' nnz198 bz199
                    go_frame
                    refine y_oper 9 (by kernel_rfl) rfl rfl (fun K' hK' => ?_)
                    have lz203 := hB.size
                    have lz204 := hz176.lt
                    have lz205 := hz200.lt
                    refine wp_call1 (some 46) rfl 70 _ _ rfl (fun args w => by kernel_rfl) _ rfl _ (l10Forms_c r HRb.out _) (fun e Wz201 h => ?_)
                    obtain ⟨rfl, bz202⟩ := h
                    replace hB := below_after hB bz202
                    replace hz176 := hz176.after bz202
                    replace hz200 := hz200.after bz202
                    clear bz202
                    refine ⟨_, rfl, ?_⟩
                    refine hK' _ _ hB (fun _ => trivial) ?_
                    clear hK' K'
                    go_frame
                    refine y_oper 12 (by kernel_rfl) rfl rfl (fun K' hK' => ?_)
                    refine wp_store_bytes 100 _ _ rfl rfl Wz177.heap.size rfl (q) rfl _ _ hz200 27 (by kernel_rfl) HQb.out.len (by simp) (fun Wz206 pz207 => ?_)
                    replace hB := pz207.below hB (by omega)
                    replace hz176 := pz207.other hz176 (by omega)
                    replace hz200 : At Wz206 Wz177.heap.size (.cells (u8s (q)) 100 (0, 0)) := pz207.at_
                    refine hK' _ _ hB (fun _ => trivial) ?_
                    clear hK' K' pz207
                    refine y_oper 13 (by kernel_rfl) rfl rfl (fun K' hK' => ?_)
                    refine wp_store_bytes 100 _ _ rfl rfl wdz9.heap.size rfl (r) rfl _ _ hz176 27 (by kernel_rfl) HRb.out.len (by simp) (fun Wz208 pz209 => ?_)
                    replace hB := pz209.below hB (by omega)
                    replace hz200 := pz209.other hz200 (by omega)
                    replace hz176 : At Wz208 wdz9.heap.size (.cells (u8s (r)) 100 (0, 0)) := pz209.at_
                    refine hK' _ _ hB (fun _ => trivial) ?_
                    clear hK' K' pz209
                    refine y_done (by kernel_rfl) ?_ _
                    go_wp2_with fail
                    go_meet
                    have hz9 := hB.size
                    exact ⟨_, _, rfl, rfl, by omega, by omega, by omega, hB, hz200, hz176⟩
                · have lz210 := hB.size
                  have lz211 := hz176.lt
                  refine wp_new (some 9) rfl (alMs__3_impl_Form rfl) (fun Wz212 nnz213 => ?_)
                  have bz214 := nnz213.below (Below.refl _ _) (Nat.le_refl _)
                  replace hB := below_after hB bz214
                  replace hz176 := hz176.after bz214
                  have hz215 : At Wz212 Wz173.heap.size (.cells (u8s (List.replicate 27 0)) 100 (0, 0)) := nnz213.at_
                  refine hK' _ _ hB (fun _ => trivial) ?_
                  clear hK' K' nnz213 bz214
                  go_frame
                  refine y_oper 4 (by kernel_rfl) rfl rfl (fun K' hK' => ?_)
                  have lz218 := hB.size
                  have lz219 := hz176.lt
                  have lz220 := hz215.lt
                  refine wp_call1 (some 41) rfl 70 _ _ rfl (fun args w => by kernel_rfl) _ rfl _ (l10Forms_c q HQb.out _) (fun e Wz216 h => ?_)
                  obtain ⟨rfl, bz217⟩ := h
                  replace hB := below_after hB bz217
                  replace hz176 := hz176.after bz217
                  replace hz215 := hz215.after bz217
                  clear bz217
                  refine ⟨_, rfl, ?_⟩
                  refine hK' _ _ hB (fun _ => trivial) ?_
                  clear hK' K'
                  go_frame
                  refine y_oper 9 (by kernel_rfl) rfl rfl (fun K' hK' => ?_)
                  have lz223 := hB.size
                  have lz224 := hz176.lt
                  have lz225 := hz215.lt
                  refine wp_call1 (some 46) rfl 70 _ _ rfl (fun args w => by kernel_rfl) _ rfl _ (l10Forms_c r HRb.out _) (fun e Wz221 h => ?_)
                  obtain ⟨rfl, bz222⟩ := h
                  replace hB := below_after hB bz222
                  replace hz176 := hz176.after bz222
                  replace hz215 := hz215.after bz222
                  clear bz222
                  refine ⟨_, rfl, ?_⟩
                  refine hK' _ _ hB (fun _ => trivial) ?_
                  clear hK' K'
                  go_frame
                  refine y_oper 12 (by kernel_rfl) rfl rfl (fun K' hK' => ?_)
                  refine wp_store_bytes 100 _ _ rfl rfl Wz173.heap.size rfl (q) rfl _ _ hz215 27 (by kernel_rfl) HQb.out.len (by simp) (fun Wz226 pz227 => ?_)
                  replace hB := pz227.below hB (by omega)
                  replace hz176 := pz227.other hz176 (by omega)
                  replace hz215 : At Wz226 Wz173.heap.size (.cells (u8s (q)) 100 (0, 0)) := pz227.at_
                  refine hK' _ _ hB (fun _ => trivial) ?_
                  clear hK' K' pz227
                  refine y_oper 13 (by kernel_rfl) rfl rfl (fun K' hK' => ?_)
                  refine wp_store_bytes 100 _ _ rfl rfl wdz9.heap.size rfl (r) rfl _ _ hz176 27 (by kernel_rfl) HRb.out.len (by simp) (fun Wz228 pz229 => ?_)
                  replace hB := pz229.below hB (by omega)
                  replace hz215 := pz229.other hz215 (by omega)
                  replace hz176 : At Wz228 wdz9.heap.size (.cells (u8s (r)) 100 (0, 0)) := pz229.at_
                  refine hK' _ _ hB (fun _ => trivial) ?_
                  clear hK' K' pz229
                  refine y_done (by kernel_rfl) ?_ _
                  go_wp2_with fail
                  go_meet
                  have hz9 := hB.size
                  exact ⟨_, _, rfl, rfl, by omega, by omega, by omega, hB, hz215, hz176⟩
            case rest =>
            clear hB
            obtain ⟨B9, B10, rfl, rfl, hne9, hb9, hb10, hB, h9, h10⟩ := hcut
            obtain ⟨wc, rfl⟩ := cut_worldG hB
            go_upto_region 10 with (fail)
            refine wp_region_y (zs := [10]) (S := fun w' => Below w.heap.size w w' ∧ At w' B10 (.cells (u8s (r)) 100 (0, 0))) (S2 := fun w' => At w' B9 (.cells (u8s (q)) 100 (0, 0))) (by kernel_rfl) ?_
            change wpAnyY _ _ _ _ _ _ _ _ _ _ (World.drew _)
            generalize hwdz230 : World.drew _ = wdz230
            replace hB : Below w.heap.size w wdz230 := by rw [← hwdz230]; exact hB.drew
            replace h9 : At wdz230 B9 (.cells (u8s (q)) 100 (0, 0)) := by rw [← hwdz230]; exact h9
            replace h10 : At wdz230 B10 (.cells (u8s (r)) 100 (0, 0)) := by rw [← hwdz230]; exact h10
            clear hwdz230
            refine y_yield 0 (some 47) (.int .i64 (wd : Nat)) rfl (by kernel_rfl) (by kernel_rfl) (by kernel_rfl) (fun _ _ _ h => h) rfl rfl ⟨hB, h10⟩ (fun w' h' => exec_move _ rfl (.int .i64 (wd : Nat)) rfl) ?_
            go_frame
            refine y_yield 1 (some 48) (.int .i64 p) rfl (by kernel_rfl) (by kernel_rfl) (by kernel_rfl) (fun _ _ _ h => h) rfl rfl ⟨hB, h10⟩ (fun w' h' => exec_move _ rfl (.int .i64 p) rfl) ?_
            go_frame
            refine y_yield 2 (some 49) (.int .i64 (wd : Nat)) rfl (by kernel_rfl) (by kernel_rfl) (by kernel_rfl) (fun _ _ _ h => h) rfl rfl ⟨hB, h10⟩ (fun w' h' => exec_move _ rfl (.int .i64 (wd : Nat)) rfl) ?_
            go_frame
            refine y_yield 3 (some 50) (.pointer (some ⟨B9, 0 + wd * 9, none⟩)) rfl (by kernel_rfl) (by kernel_rfl) (by kernel_rfl) (fun _ _ _ h => h) rfl rfl ⟨hB, h10⟩ (fun w' h' => exec_index_arr 100 51 _ _ rfl B9 0 3 wd 9 rfl rfl Try.underlying100 (by kernel_rfl) hw3) ?_
            go_frame
            refine y_yield3 4 (some 51) (.agg (u8s (facQ q wd))) rfl 11 (by kernel_rfl) (by kernel_rfl) (by kernel_rfl) (by kernel_rfl) (by kernel_rfl) (fun _ _ _ h => h) rfl rfl ⟨hB, h10⟩ h9 (fun w' h' h2' => exec_load_seg 51 _ rfl B9 (0 + wd * 9) rfl _ (q) _ 9 h2' Try.underlying51 rfl (by kernel_rfl) (by rw [HQb.out.len]; omega) (facQ q wd) ((by rw [Nat.zero_add]; rfl))) ?_
            go_frame
            refine y_yield 5 (some 52) (.int .i64 (wd : Nat)) rfl (by kernel_rfl) (by kernel_rfl) (by kernel_rfl) (fun _ _ _ h => h) rfl rfl ⟨hB, h10⟩ (fun w' h' => exec_move _ rfl (.int .i64 (wd : Nat)) rfl) ?_
            go_frame
            refine y_yield 6 (some 53) (.pointer (some ⟨B10, 0 + wd * 9, none⟩)) rfl (by kernel_rfl) (by kernel_rfl) (by kernel_rfl) (fun _ _ _ h => h) rfl rfl ⟨hB, h10⟩ (fun w' h' => exec_index_arr 100 51 _ _ rfl B10 0 3 wd 9 rfl rfl Try.underlying100 (by kernel_rfl) hw3) ?_
            go_frame
            refine y_yield 7 (some 54) (.agg (u8s (facQ r wd))) rfl (by kernel_rfl) (by kernel_rfl) (by kernel_rfl) (fun _ _ _ h => h) rfl rfl ⟨hB, h10⟩ (fun w' h' => exec_load_seg 51 _ rfl B10 (0 + wd * 9) rfl _ (r) _ 9 h'.2 Try.underlying51 rfl (by kernel_rfl) (by rw [HRb.out.len]; omega) (facQ r wd) ((by rw [Nat.zero_add]; rfl))) ?_
            go_frame
            refine y_oper 8 (by kernel_rfl) rfl rfl (fun K' hK' => ?_)
            have lz233 := hB.size
            have lz234 := h9.lt
            have lz235 := h10.lt
            refine wp_call4 (some 55) rfl 71 _ _ _ _ _ rfl (fun args w => by kernel_rfl) _ _ _ _ rfl rfl rfl rfl _ (l01Add_c p 1 (facQ q wd) (facQ r wd) (facQ_bytes HQb.out hw3) (facQ_bytes HRb.out hw3) _ (by omega) (by omega) (by omega) (by omega)) (fun e Wz231 h => ?_)
            obtain ⟨rfl, bz232⟩ := h
            replace hB := below_after hB bz232
            replace h9 := h9.after bz232
            replace h10 := h10.after bz232
            rw [HF.out]
            clear bz232
            refine ⟨_, rfl, ?_⟩
            refine hK' _ _ ⟨hB, h10⟩ (fun _ => h9) ?_
            clear hK' K'
            go_frame
            refine y_yield 9 (some 56) (.pointer (some ⟨B9, 0 + wd * 9, none⟩)) rfl (by kernel_rfl) (by kernel_rfl) (by kernel_rfl) (fun _ _ _ h => h) rfl rfl ⟨hB, h10⟩ (fun w' h' => exec_index_arr 100 51 _ _ rfl B9 0 3 wd 9 rfl rfl Try.underlying100 (by kernel_rfl) hw3) ?_
            go_frame
            refine y_oper 10 (by kernel_rfl) rfl rfl (fun K' hK' => ?_)
            refine wp_store_u8s 51 _ _ rfl rfl B9 (0 + wd * 9) rfl (F) rfl _ _ h9 9 (by kernel_rfl) HFb.out.len (by rw [HQb.out.len]; omega) (fun Wz236 pz237 => ?_)
            replace hB := pz237.below hB (by omega)
            replace h10 := pz237.other h10 (by omega)
            replace h9 : At Wz236 B9 (.cells (u8s (one)) 100 (0, 0)) := by have h9 := pz237.at_; rwa [HW.out] at h9
            refine hK' _ _ ⟨hB, h10⟩ (fun h => absurd (by decide) h) ?_
            clear hK' K' pz237
            refine y_done (by kernel_rfl) ?_ _
            go_upto_region 11 with (fail)
            refine wp_region_lit ?_
            refine ls_op rfl (fun K' hK' => ?_)
            have lz242 := hB.size
            have lz243 := h9.lt
            have lz244 := h10.lt
            refine wp_new (some 57) rfl (exec_bs0 rfl) (fun Wz239 nnz240 => ?_)
            have bz241 := nnz240.below (Below.refl _ _) (Nat.le_refl _)
            replace hB := below_after hB bz241
            replace h9 := h9.after bz241
            replace h10 := h10.after bz241
            have ho : Own Wz239 w.heap.size (.slice (some ⟨Wz236.heap.size, 0, none⟩) 0 0) [] := (own_bs0 nnz240).mono (by have := hB.size; omega)
            refine hK' _ _ ?_
            clear hK' K' nnz240 bz241
            go_frame
            refine ls_ex (some 58) (.slice (some ⟨g, 0, none⟩) L c) rfl rfl (exec_move _ rfl (.slice (some ⟨g, 0, none⟩) L c) rfl) ?_
            go_frame
            refine ls_ex (some 59) (.int .i64 k) rfl rfl (exec_move _ rfl (.int .i64 k) rfl) ?_
            go_frame
            refine ls_ex (some 60) (.slice (some ⟨g, 0, none⟩) k c) rfl rfl (exec_sl_hi _ _ rfl g L c k (by omega) rfl rfl) ?_
            go_frame
            refine ls_op rfl (fun K' hK' => ?_)
            have lz248 := hB.size
            have lz249 := h9.lt
            have lz250 := h10.lt
            refine wp_append_rdN (some 61) rfl _ _ rfl (.slice (some ⟨Wz236.heap.size, 0, none⟩) 0 0) ([]) (qs.take k) (k) HTk.out rfl ho (some ⟨g, 0, none⟩) (c) rfl (((ho0.below hB).rd' HCb.out).take9 k) (fun h => by cases h) (by rw [HTk.out]; simp; omega) (by omega) (fun v8 Wz245 noz247 grz246 => ?_)
            rw [List.nil_append] at noz247
            obtain ⟨A8, c8, rfl⟩ := Own.rdN2 noz247 (n := k) HTk.out
            replace hB := below_grown hB grz246 ho (by omega)
            replace h9 := h9.grown grz246 (ho.off h9 (by decide))
            replace h10 := h10.grown grz246 (ho.off h10 (by decide))
            replace ho := noz247
            refine hK' _ _ ?_
            clear hK' K' grz246
            go_frame
            refine ls_ex (some 11) (.slice A8 k c8) rfl rfl (exec_assign _ rfl (.slice A8 k c8) rfl) ?_
            go_frame
            refine wpList_nil ?_
            obtain ⟨g8, rfl, hg8⟩ := ho.blk (by rw [HTk.out]; omega)
            go_upto_region 12 with (fail)
            refine wp_region_lit ?_
            refine ls_ex (some 62) (.slice (some ⟨g8, 0, none⟩) k c8) rfl rfl (exec_move _ rfl (.slice (some ⟨g8, 0, none⟩) k c8) rfl) ?_
            go_frame
            refine ls_ex (some 63) (.int .i64 i) rfl rfl (exec_move _ rfl (.int .i64 i) rfl) ?_
            go_frame
            refine ls_ex (some 64) (.agg (u8s (one))) rfl rfl (exec_load_all 100 _ rfl B9 rfl _ _ _ h9 Try.underlying100 rfl 27 (by kernel_rfl) ((u8s_size _).trans HOb.out.len)) ?_
            go_frame
            refine ls_op rfl (fun K' hK' => ?_)
            have lz253 := hB.size
            have lz254 := h9.lt
            have lz255 := h10.lt
            refine wp_call1 (some 65) rfl 72 _ _ rfl (fun args w => by kernel_rfl) _ rfl _ (l10Product_c one HOb.out _) (fun e Wz251 h => ?_)
            obtain ⟨rfl, bz252⟩ := h
            replace hB := below_after hB bz252
            replace h9 := h9.after bz252
            replace h10 := h10.after bz252
            replace ho := ho.below bz252
            clear bz252
            refine ⟨_, rfl, ?_⟩
            refine hK' _ _ ?_
            clear hK' K'
            go_frame
            refine ls_ex (some 66) (.pointer (some ⟨g8, i * 27, none⟩)) rfl rfl (exec_ix0 _ 53 _ _ rfl g8 k c8 i 27 rfl rfl Try.underlying26 (by kernel_rfl) (by omega)) ?_
            go_frame
            refine ls_op rfl (fun K' hK' => ?_)
            clear h9 h10
            have lz259 := hB.size
            refine wp_store_own 53 _ _ rfl rfl g8 i rfl (one) rfl ho HT27.out (by kernel_rfl) HTi.out HOb.out.len (fun Wz256 hoz258 pz257 _ => ?_)
            replace hB := pz257.below hB (by omega)
            replace ho := hoz258
            refine hK' _ _ ?_
            clear hK' K' pz257 hoz258
            refine wpList_nil ?_
            go_upto_region 13 with (fail)
            refine wp_region_lit ?_
            refine ls_ex (some 67) (.slice (some ⟨g8, 0, none⟩) k c8) rfl rfl (exec_move _ rfl (.slice (some ⟨g8, 0, none⟩) k c8) rfl) ?_
            go_frame
            refine ls_ex (some 68) (.slice (some ⟨g, 0, none⟩) L c) rfl rfl (exec_move _ rfl (.slice (some ⟨g, 0, none⟩) L c) rfl) ?_
            go_frame
            refine ls_ex (some 69) (.int .i64 k) rfl rfl (exec_move _ rfl (.int .i64 k) rfl) ?_
            go_frame
            refine ls_ex (some 70) (.int .i64 ((k + 1 : Nat) : Int)) rfl rfl (exec_add _ _ _ _ rfl (k : Nat) 1 ((k + 1 : Nat) : Int) rfl rfl (by rw [IntWalk.i64_in _ (by omega)]; omega)) ?_
            go_frame
            refine ls_ex (some 71) (.slice (some ⟨g, OE, none⟩) (L - (k + 1)) (c - (k + 1))) rfl rfl (exec_sl_loE _ _ rfl g L c (k + 1) (by omega) rfl rfl HOE.out) ?_
            go_frame
            refine ls_op rfl (fun K' hK' => ?_)
            have lz263 := hB.size
            refine wp_append_rdN (some 72) rfl _ _ rfl (.slice (some ⟨g8, 0, none⟩) k c8) ((qs.take k).set i one) (qs.drop (k + 1)) (L - (k + 1)) HDl.out rfl ho (some ⟨g, OE, none⟩) (c - (k + 1)) rfl (((ho0.below hB).rd' HCb.out).dropE HOE2.out) (fun h => by cases h) (by rw [HDl.out, List.length_set, HTk.out]; omega) (by omega) (fun v7 Wz260 noz262 grz261 => ?_)
            rw [HLST.out] at noz262
            obtain ⟨A7, c7, rfl⟩ := Own.rdN2 noz262 (n := N7) HN7.out
            replace hB := below_grown hB grz261 ho (by omega)
            replace ho := noz262
            refine hK' _ _ ?_
            clear hK' K' grz261
            go_frame
            refine ls_op rfl (fun K' hK' => ?_)
            have lz266 := hB.size
            have lo7 := hB.size
            refine wp_call1 (some 73) rfl 73 _ _ rfl (fun args w => by kernel_rfl) _ rfl _ (l10DropN_c A7 c7 _ N7 HN7.out _ (ho.rd' HDb.out) (by omega)) (fun e Wz264 h => ?_)
            obtain ⟨v7, rfl, ho7, bz265⟩ := h
            replace hB := below_after hB bz265
            replace ho := ho.below bz265
            rw [HDr.out] at ho7
            clear bz265
            refine ⟨_, rfl, ?_⟩
            refine hK' _ _ ?_
            clear hK' K'
            go_frame
            refine ls_ex (some 4) (v7) rfl rfl (exec_assign _ rfl (v7) rfl) ?_
            go_frame
            refine ls_ex (some 5) (.bool true) rfl rfl (exec_assign _ rfl (.bool true) rfl) ?_
            go_frame
            refine wpList_nil ?_
            go_wp2_with fail
            go_ret2
            exact ⟨_, rfl, by rw [HRS.out]; exact ho7.mono (by omega), hB⟩
        · have HNn : Hid (unI (mgF p) qs (L - (i + 1)) = unN (mgF p) qs) := Lib.hid (by have h9 := HK.out; rw [show L - k = 0 by omega] at h9; exact h9)
          go_upto_region 5 with (fail)
          refine wp_region_lit ?_
          refine ls_ex (some 20) (.int .i64 k) rfl rfl (exec_move _ rfl (.int .i64 k) rfl) ?_
          go_frame
          refine ls_ex (some 21) (.slice (some ⟨g, 0, none⟩) L c) rfl rfl (exec_move _ rfl (.slice (some ⟨g, 0, none⟩) L c) rfl) ?_
          go_frame
          refine ls_ex (some 22) (.int .i64 L) rfl rfl (exec_len _ 26 53 rfl ((some ⟨g, 0, none⟩)) L c rfl Try.underlying26) ?_
          go_frame
          refine ls_ex (some 23) (.bool false) rfl rfl (exec_lss _ _ _ _ rfl k L rfl rfl false (decide_eq_false (by omega))) ?_
          go_frame
          refine wpList_nil ?_
          go_upto_region 3 with (fail)
          refine wp_region_lit ?_
          refine ls_ex (some 16) (.int .i64 i) rfl rfl (exec_move _ rfl (.int .i64 i) rfl) ?_
          go_frame
          refine ls_ex (some 17) (.int .i64 (i + 1)) rfl rfl (exec_add _ _ _ _ rfl i 1 (i + 1) rfl rfl (IntWalk.i64_in _ (by omega))) ?_
          go_frame
          refine ls_ex (some 6) (.int .i64 (i + 1)) rfl rfl (exec_assign _ rfl (.int .i64 (i + 1)) rfl) ?_
          go_frame
          refine wpList_nil ?_
          go_wp2_with fail
          go_roundw
          case rel => exact ⟨i + 1, by omega, by go_num, HNn, hB⟩
          case measure => simp [intOf]; omega
    · have h9 := HN.out
      rw [show L - i = 0 by omega] at h9
      exact absurd (h9.trans HN0.out) (by simp [unI])
end Go.Proofs.Ytopdfblfhdooaaa
