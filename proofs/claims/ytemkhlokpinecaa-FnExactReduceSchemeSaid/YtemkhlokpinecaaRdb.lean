/-
  spec.l03Step, l03Reduce. (Made by mkrdb.py.)
-/
import Derived.Test.YtemkhlokpinecaaRda
import Derived.Test.YtemkhlokpinecaaUnC
import Derived.Test.YtemkhlokpinecaaNrm3
namespace Go.Proofs.Ytemkhlokpinecaa
open Go.RowKit
set_option maxRecDepth 100000
theorem l03ToldN_c (p n m k : Int) (A0 : Option Addr) (l0 cap0 : Nat) (A : Option Addr) (cap : Nat) (ps : List (List Nat)) (N : Nat) (hN : ps.length = N) (w : World) (hr : Rd w A ps) (hlen : N ≤ 1000) :
    Calls Try.prog 87 #[.agg #[.int .i64 p, .int .i64 n, .int .i64 m, .int .i64 k, .slice A0 l0 cap0], .slice A N cap] w
      fun e w' => ∃ v, e = .returned (.agg #[.int .i64 p, .int .i64 n, .int .i64 m, .int .i64 k, v]) ∧ Own w' w.heap.size v (ps.filter nzB) ∧ Below w.heap.size w w' := by
  subst hN
  exact l03Told_c p n m k A0 l0 cap0 A cap ps w hr hlen
theorem l03AllNormalN_c (p n m k : Int) (A : Option Addr) (cap : Nat) (qs : List (List Nat)) (N : Nat) (hN : qs.length = N) (w : World) (hr : Rd w A qs) (hlen : N ≤ 1000) (hp : primeB p = true) (hL : ∀ q ∈ qs, LeadOk p q) :
    Calls Try.prog 54 #[.agg #[.int .i64 p, .int .i64 n, .int .i64 m, .int .i64 k, .slice A N cap]] w
      fun e w' => ∃ v, e = .returned (.agg #[.int .i64 p, .int .i64 n, .int .i64 m, .int .i64 k, v]) ∧ Own w' w.heap.size v (qs.map (normQ p)) ∧ Below w.heap.size w w' := by
  subst hN
  exact l03AllNormal_c p n m k A cap qs w hr hlen hp hL
theorem rd_list {qs : List (List Nat)} {i k : Nat} {one : List Nat} (h : i < k) (hl : i < (qs.take k).length) : (qs.take k ++ qs.drop (k + 1)).set i one = (qs.set i one).eraseIdx k := by
  rw [List.set_append_left _ _ hl, List.eraseIdx_eq_take_drop_succ, List.take_set, List.drop_set_of_lt (by omega)]
theorem wp_append_rdN {o : Oper} {a : Act} {w : World} {K : Act → World → Prop} {Q : Exit → Act → World → Prop} (d : Option Tmp) (hd : o.dst = d) (s x : Operand) (ho : o.op = .call { callee := .builtin .append, args := #[s, x], argTypes := #[26, 26] })
    {lo : Nat} (v : Value) (qs rs : List (List Nat)) (n : Nat) (hn : rs.length = n) (hs : a.eval s = v) (hown : Own w lo v qs) (A : Option Addr) (c : Nat) (hx : a.eval x = .slice A n c) (hr : Rd w A rs) (hc : A = none → c = 0) (hle : qs.length + rs.length ≤ 1000000) (hlo : lo ≤ w.heap.size)
    (h : ∀ v' w', Own w' lo v' (qs ++ rs) → w.grownBy w' v.ownBlock → K (a.put d v') w') : Oper.wp Try.prog o a w K Q := by
  subst hn
  exact wp_append_rd d hd s x ho v qs rs hs hown A c hx hr hc hle hlo h
theorem Rd.take9 {w : World} {A : Option Addr} {qs : List (List Nat)} (h : Rd w A qs) (i : Nat) : Rd w A (qs.take i) := by
  refine ⟨fun q hq => h.1 q (List.mem_of_mem_take hq), ?_⟩
  rcases h.2 with rfl | ⟨b, off, hA, hc⟩
  · left; simp
  · refine .inr ⟨b, off, hA, fun j q hj => hc j q ?_⟩
    rw [List.getElem?_take] at hj
    split at hj
    · exact hj
    · cases hj
theorem Rd.dropE {w : World} {g OE l : Nat} {qs : List (List Nat)} (h : Rd w (some ⟨g, 0, none⟩) qs) (hO : qs.length ≤ l ∨ OE = l * 27) : Rd w (some ⟨g, OE, none⟩) (qs.drop l) := by
  refine ⟨fun q hq => h.1 q (List.mem_of_mem_drop hq), ?_⟩
  rcases hO with e | rfl
  · left
    exact List.drop_eq_nil_of_le e
  · rcases h.2 with rfl | ⟨b, off, hA, hc⟩
    · left; simp
    · simp only [Option.some.injEq, Addr.mk.injEq] at hA
      obtain ⟨rfl, rfl, _⟩ := hA
      refine .inr ⟨g, l * 27, rfl, fun j q hj t ht => ?_⟩
      rw [List.getElem?_drop] at hj
      have := hc (l + j) q hj t ht
      rw [show 0 + (l + j) * 27 + t = l * 27 + j * 27 + t by rw [Nat.add_mul]; omega] at this
      exact this
attribute [local irreducible] wpList
theorem alRb_impl_Product {o : Oper} {a : Act} {w : World} (ho : o.op = .alloc 53) : (execOp a.eval o).run Try.prog w = .ok (.value (.pointer (some ⟨w.heap.size, 0, none⟩))) (w.alloc (.cells (u8s (List.replicate 27 0)) 53 (0, 0))) := by
  unfold execOp
  rw [ho]
  kernel_rfl
theorem alRb_impl_Scheme {o : Oper} {a : Act} {w : World} (ho : o.op = .alloc 28) : (execOp a.eval o).run Try.prog w = .ok (.value (.pointer (some ⟨w.heap.size, 0, none⟩))) (w.alloc (.cells #[.int .i64 0, .int .i64 0, .int .i64 0, .int .i64 0, .slice none 0 0] 28 (0, 0))) := by
  unfold execOp
  rw [ho]
  kernel_rfl
set_option maxHeartbeats 12800000 in
theorem l03Step_none (p n m k0 : Int) (lo : Nat) (A : Option Addr) (c L : Nat) (qs : List (List Nat)) (w : World) (hpp : primeB p = true) (ho0 : Own w lo (.slice A L c) qs) (hG : ∀ q ∈ qs, GR p q) (hlen : L ≤ 500) (hL : qs.length = L) (hn : unN (reF p) qs = none) :
    Calls Try.prog 55 #[.agg #[.int .i64 p, .int .i64 n, .int .i64 m, .int .i64 k0, .slice A L c]] w (fun e w' => e = .returned (.tuple #[.agg #[.int .i64 p, .int .i64 n, .int .i64 m, .int .i64 k0, .slice A L c], .bool false]) ∧ Below w.heap.size w w') := by
  have hB := Below.refl w.heap.size w
  have HG := Lib.hid hG
  have HCb : Hid (∀ q ∈ qs, Bytes 27 q) := Lib.hid (fun x hx => (hG x hx).b)
  have HL := Lib.hid hL
  have HN0 := Lib.hid hn
  clear hG hL hn
  go_enter Try.func55, Try.ntmps55
  go_upto_region 0 with (fail)
  refine wp_region_lit ?_
  refine ls_op rfl (fun K' hK' => ?_)
  have lz1 := hB.size
  refine wp_new (some 1) rfl (exec_box 28 _ rfl (#[.int .i64 p, .int .i64 n, .int .i64 m, .int .i64 k0, .slice A L c]) rfl) (fun Wz2 nnz3 => ?_)
  have bz4 := nnz3.below (Below.refl _ _) (Nat.le_refl _)
  replace hB := below_after hB bz4
  have hz5 : At Wz2 w.heap.size (.cells #[.int .i64 p, .int .i64 n, .int .i64 m, .int .i64 k0, .slice A L c] 28 (0, 0)) := nnz3.at_
  refine hK' _ _ ?_
  clear hK' K' nnz3 bz4
  go_frame
  refine ls_op rfl (fun K' hK' => ?_)
  have lz6 := hB.size
  have lz7 := hz5.lt
  refine wp_new (some 2) rfl (alRb_impl_Scheme rfl) (fun Wz8 nnz9 => ?_)
  have bz10 := nnz9.below (Below.refl _ _) (Nat.le_refl _)
  replace hB := below_after hB bz10
  replace hz5 := hz5.after bz10
  have hz11 : At Wz8 Wz2.heap.size (.cells #[.int .i64 0, .int .i64 0, .int .i64 0, .int .i64 0, .slice none 0 0] 28 (0, 0)) := nnz9.at_
  refine hK' _ _ ?_
  clear hK' K' nnz9 bz10
  go_frame
  refine ls_ex (some 3) (.bool false) rfl rfl (exec_assign _ rfl (.bool false) rfl) ?_
  go_frame
  refine wpList_nil ?_
  go_upto_region 1 with (fail)
  refine wp_region_lit ?_
  refine ls_ex (some 4) (.int .i64 0) rfl rfl (exec_assign _ rfl (.int .i64 0) rfl) ?_
  go_frame
  refine wpList_nil ?_
  go_wp2_with fail
  go_loopw [4] (fun s4 wr => ∃ i : Nat, i ≤ L ∧ s4 = .int .i64 i ∧ Hid (unI (reF p) qs (L - i) = unN (reF p) qs) ∧ Below w.heap.size w wr ∧ At wr w.heap.size (.cells #[.int .i64 p, .int .i64 n, .int .i64 m, .int .i64 k0, .slice A L c] 28 (0, 0)) ∧ At wr Wz2.heap.size (.cells #[.int .i64 0, .int .i64 0, .int .i64 0, .int .i64 0, .slice none 0 0] 28 (0, 0))) (fun s4 _ => L - (intOf s4).toNat)
  case atStart => exact ⟨0, by omega, rfl, Lib.hid (by rw [Nat.sub_zero, ← HL.out]; rfl), hB, hz5, hz11⟩
  case round =>
    clear hB hz5 hz11
    obtain ⟨i, hle, rfl, HN, hB, h1, h2⟩ := hrel
    by_cases hlt : i < L
    · have hi : i < qs.length := by rw [HL.out]; exact hlt
      obtain ⟨g, rfl, hg⟩ := ho0.blk (by omega)
      obtain ⟨q, hq⟩ : ∃ z9, qs[i]? = some z9 := ⟨_, List.getElem?_eq_getElem hi⟩
      have HQ := Lib.hid hq
      have HGQ := Lib.hid (HG.out q (List.mem_of_getElem? hq))
      have HQb := Lib.hid HGQ.out.b
      clear hq
      have HN2 : Hid ((unK (reF p) qs i (L - (i + 1))).or (unI (reF p) qs (L - (i + 1))) = unN (reF p) qs) := Lib.hid (by rw [← HN.out]; have h9 := unI_step (un := reF p) hi; rw [HL.out] at h9; exact h9.symm)
      go_upto_region 2 with (fail)
      refine wp_region_lit ?_
      refine ls_ex (some 9) (.int .i64 i) rfl rfl (exec_move _ rfl (.int .i64 i) rfl) ?_
      go_frame
      refine ls_ex (some 10) (.pointer (some ⟨w.heap.size, 4, none⟩)) rfl rfl (exec_fieldAddr 28 _ 4 rfl _ (by kernel_rfl)) ?_
      go_frame
      refine ls_ex (some 11) (.slice (some ⟨g, 0, none⟩) L c) rfl rfl (exec_load_one 26 _ rfl w.heap.size 4 rfl (.slice (some ⟨g, 0, none⟩) L c) _ Try.underlying26 rfl (h1.at_ 4)) ?_
      go_frame
      refine ls_ex (some 12) (.int .i64 L) rfl rfl (exec_len _ 26 53 rfl ((some ⟨g, 0, none⟩)) L c rfl Try.underlying26) ?_
      go_frame
      refine ls_ex (some 13) (.bool true) rfl rfl (exec_lss _ _ _ _ rfl i L rfl rfl true (decide_eq_true (by omega))) ?_
      go_frame
      refine wpList_nil ?_
      go_upto_region 4 with (fail)
      refine wp_region_lit ?_
      refine ls_ex (some 16) (.int .i64 i) rfl rfl (exec_move _ rfl (.int .i64 i) rfl) ?_
      go_frame
      refine ls_ex (some 17) (.int .i64 (i + 1)) rfl rfl (exec_add _ _ _ _ rfl i 1 (i + 1) rfl rfl (IntWalk.i64_in _ (by omega))) ?_
      go_frame
      refine ls_ex (some 5) (.int .i64 (i + 1)) rfl rfl (exec_assign _ rfl (.int .i64 (i + 1)) rfl) ?_
      go_frame
      refine wpList_nil ?_
      go_wp2_with fail
      obtain ⟨we, rfl⟩ : ∃ x : World, x = wr := ⟨_, rfl⟩
      go_loopw [5] (fun s5 wr => ∃ k : Nat, i < k ∧ k ≤ L ∧ s5 = .int .i64 k ∧ Hid ((unK (reF p) qs i (L - k)).or (unI (reF p) qs (L - (i + 1))) = unN (reF p) qs) ∧ Below w.heap.size w wr ∧ At wr w.heap.size (.cells #[.int .i64 p, .int .i64 n, .int .i64 m, .int .i64 k0, .slice (some ⟨g, 0, none⟩) L c] 28 (0, 0)) ∧ At wr Wz2.heap.size (.cells #[.int .i64 0, .int .i64 0, .int .i64 0, .int .i64 0, .slice none 0 0] 28 (0, 0))) (fun s5 _ => L - (intOf s5).toNat)
      case atStart => exact ⟨i + 1, by omega, by omega, by go_num, HN2, hB, h1, h2⟩
      case round =>
        clear hB h1 h2
        obtain ⟨k, hik, hk, rfl, HK, hB, h1, h2⟩ := hrel
        by_cases hlt2 : k < L
        · have hkc : k < qs.length := by rw [HL.out]; exact hlt2
          obtain ⟨r, hr⟩ : ∃ z9, qs[k]? = some z9 := ⟨_, List.getElem?_eq_getElem hkc⟩
          have HR := Lib.hid hr
          have HGR := Lib.hid (HG.out r (List.mem_of_getElem? hr))
          have HRb := Lib.hid HGR.out.b
          clear hr
          rcases hj : joF p q r with _ | one
          · have HJ := Lib.hid hj
            clear hj
            have Hu : Hid (reF p q r = none) := Lib.hid (by unfold reF; rw [HJ.out]; rfl)
            have HK2 : Hid ((unK (reF p) qs i (L - (k + 1))).or (unI (reF p) qs (L - (i + 1))) = unN (reF p) qs) := Lib.hid (by have h9 := HK.out; rw [show L - k = qs.length - k by rw [HL.out], unK_none HQ.out HR.out Hu.out, HL.out] at h9; exact h9)
            go_upto_region 5 with (fail)
            refine wp_region_lit ?_
            refine ls_ex (some 18) (.int .i64 k) rfl rfl (exec_move _ rfl (.int .i64 k) rfl) ?_
            go_frame
            refine ls_ex (some 19) (.pointer (some ⟨w.heap.size, 4, none⟩)) rfl rfl (exec_fieldAddr 28 _ 4 rfl _ (by kernel_rfl)) ?_
            go_frame
            refine ls_ex (some 20) (.slice (some ⟨g, 0, none⟩) L c) rfl rfl (exec_load_one 26 _ rfl w.heap.size 4 rfl (.slice (some ⟨g, 0, none⟩) L c) _ Try.underlying26 rfl (h1.at_ 4)) ?_
            go_frame
            refine ls_ex (some 21) (.int .i64 L) rfl rfl (exec_len _ 26 53 rfl ((some ⟨g, 0, none⟩)) L c rfl Try.underlying26) ?_
            go_frame
            refine ls_ex (some 22) (.bool true) rfl rfl (exec_lss _ _ _ _ rfl k L rfl rfl true (decide_eq_true (by omega))) ?_
            go_frame
            refine wpList_nil ?_
            go_upto_region 7 with (fail)
            refine wp_region_y (zs := []) (S := fun w' => Below w.heap.size w w' ∧ At w' w.heap.size (.cells #[.int .i64 p, .int .i64 n, .int .i64 m, .int .i64 k0, .slice (some ⟨g, 0, none⟩) L c] 28 (0, 0))) (S2 := fun w' => True) (by kernel_rfl) ?_
            change wpAnyY _ _ _ _ _ _ _ _ _ _ (World.drew _)
            generalize hwdz12 : World.drew _ = wdz12
            replace hB : Below w.heap.size w wdz12 := by rw [← hwdz12]; exact hB.drew
            replace h1 : At wdz12 w.heap.size (.cells #[.int .i64 p, .int .i64 n, .int .i64 m, .int .i64 k0, .slice (some ⟨g, 0, none⟩) L c] 28 (0, 0)) := by rw [← hwdz12]; exact h1
            replace h2 : At wdz12 Wz2.heap.size (.cells #[.int .i64 0, .int .i64 0, .int .i64 0, .int .i64 0, .slice none 0 0] 28 (0, 0)) := by rw [← hwdz12]; exact h2
            clear hwdz12
            refine y_yield 0 (some 26) (.pointer (some ⟨w.heap.size, 0, none⟩)) rfl (by kernel_rfl) (by kernel_rfl) (by kernel_rfl) (fun _ _ _ h => h) rfl rfl ⟨hB, h1⟩ (fun w' h' => exec_fieldAddr 28 _ 0 rfl _ (by kernel_rfl)) ?_
            go_frame
            refine y_yield 1 (some 27) (.int .i64 p) rfl (by kernel_rfl) (by kernel_rfl) (by kernel_rfl) (fun _ _ _ h => h) rfl rfl ⟨hB, h1⟩ (fun w' h' => exec_load_one 2 _ rfl w.heap.size 0 rfl (.int .i64 p) _ Try.underlying2 rfl (h'.2.at_ 0)) ?_
            go_frame
            refine y_yield 2 (some 28) (.pointer (some ⟨w.heap.size, 4, none⟩)) rfl (by kernel_rfl) (by kernel_rfl) (by kernel_rfl) (fun _ _ _ h => h) rfl rfl ⟨hB, h1⟩ (fun w' h' => exec_fieldAddr 28 _ 4 rfl _ (by kernel_rfl)) ?_
            go_frame
            refine y_yield 3 (some 29) (.slice (some ⟨g, 0, none⟩) L c) rfl (by kernel_rfl) (by kernel_rfl) (by kernel_rfl) (fun _ _ _ h => h) rfl rfl ⟨hB, h1⟩ (fun w' h' => exec_load_one 26 _ rfl w.heap.size 4 rfl (.slice (some ⟨g, 0, none⟩) L c) _ Try.underlying26 rfl (h'.2.at_ 4)) ?_
            go_frame
            refine y_yield 4 (some 30) (.int .i64 i) rfl (by kernel_rfl) (by kernel_rfl) (by kernel_rfl) (fun _ _ _ h => h) rfl rfl ⟨hB, h1⟩ (fun w' h' => exec_move _ rfl (.int .i64 i) rfl) ?_
            go_frame
            refine y_yield 5 (some 31) (.pointer (some ⟨g, i * 27, none⟩)) rfl (by kernel_rfl) (by kernel_rfl) (by kernel_rfl) (fun _ _ _ h => h) rfl rfl ⟨hB, h1⟩ (fun w' h' => exec_ix0 _ 53 _ _ rfl g L c i 27 rfl rfl Try.underlying26 (by kernel_rfl) (by omega)) ?_
            go_frame
            refine y_yield 6 (some 32) (.agg (u8s (q))) rfl (by kernel_rfl) (by kernel_rfl) (by kernel_rfl) (fun _ _ _ h => h) rfl rfl ⟨hB, h1⟩ (fun w' h' => exec_load_cells 53 _ rfl g (i * 27) rfl (q) _ 27 (Own.c27u (ho0.below h'.1) HCb.out HQ.out) Try.underlying53 rfl (by kernel_rfl) (HQb.out.len)) ?_
            go_frame
            refine y_yield 7 (some 33) (.pointer (some ⟨w.heap.size, 4, none⟩)) rfl (by kernel_rfl) (by kernel_rfl) (by kernel_rfl) (fun _ _ _ h => h) rfl rfl ⟨hB, h1⟩ (fun w' h' => exec_fieldAddr 28 _ 4 rfl _ (by kernel_rfl)) ?_
            go_frame
            refine y_yield 8 (some 34) (.slice (some ⟨g, 0, none⟩) L c) rfl (by kernel_rfl) (by kernel_rfl) (by kernel_rfl) (fun _ _ _ h => h) rfl rfl ⟨hB, h1⟩ (fun w' h' => exec_load_one 26 _ rfl w.heap.size 4 rfl (.slice (some ⟨g, 0, none⟩) L c) _ Try.underlying26 rfl (h'.2.at_ 4)) ?_
            go_frame
            refine y_yield 9 (some 35) (.int .i64 k) rfl (by kernel_rfl) (by kernel_rfl) (by kernel_rfl) (fun _ _ _ h => h) rfl rfl ⟨hB, h1⟩ (fun w' h' => exec_move _ rfl (.int .i64 k) rfl) ?_
            go_frame
            refine y_yield 10 (some 36) (.pointer (some ⟨g, k * 27, none⟩)) rfl (by kernel_rfl) (by kernel_rfl) (by kernel_rfl) (fun _ _ _ h => h) rfl rfl ⟨hB, h1⟩ (fun w' h' => exec_ix0 _ 53 _ _ rfl g L c k 27 rfl rfl Try.underlying26 (by kernel_rfl) (by omega)) ?_
            go_frame
            refine y_yield 11 (some 37) (.agg (u8s (r))) rfl (by kernel_rfl) (by kernel_rfl) (by kernel_rfl) (fun _ _ _ h => h) rfl rfl ⟨hB, h1⟩ (fun w' h' => exec_load_cells 53 _ rfl g (k * 27) rfl (r) _ 27 (Own.c27u (ho0.below h'.1) HCb.out HR.out) Try.underlying53 rfl (by kernel_rfl) (HRb.out.len)) ?_
            go_frame
            refine y_two 12 16 (by kernel_rfl) rfl rfl rfl rfl (fun K' hK' => ?_) (fun K' hK' => ?_)
            · have lz15 := hB.size
              have lz16 := h1.lt
              have lz17 := h2.lt
              refine wp_call3 (some 38) rfl 86 _ _ _ _ rfl (fun args w => by kernel_rfl) _ _ _ rfl rfl rfl _ (l03Join_c p q r _ hpp HGQ.out HGR.out) (fun e Wz13 h => ?_)
              obtain ⟨rfl, bz14⟩ := h
              replace hB := below_after hB bz14
              replace h1 := h1.after bz14
              replace h2 := h2.after bz14
              rw [HJ.out, unV_none]
              clear bz14
              refine ⟨_, rfl, ?_⟩
              refine hK' _ _ ⟨hB, h1⟩ (fun _ => trivial) ?_
              clear hK' K'
              go_frame
              refine y_yield 13 (some 25) (.tuple #[.agg (u8s (List.replicate 27 0)), .bool false]) rfl (by kernel_rfl) (by kernel_rfl) (by kernel_rfl) (fun _ _ _ h => h) rfl rfl ⟨hB, h1⟩ (fun w' h' => exec_move _ rfl (.tuple #[.agg (u8s (List.replicate 27 0)), .bool false]) rfl) ?_
              go_frame
              refine y_yield 14 (some 39) (.agg (u8s (List.replicate 27 0))) rfl (by kernel_rfl) (by kernel_rfl) (by kernel_rfl) (fun _ _ _ h => h) rfl rfl ⟨hB, h1⟩ (fun w' h' => exec_extract _ 0 rfl #[.agg (u8s (List.replicate 27 0)), .bool false] (by rfl) _ rfl) ?_
              go_frame
              refine y_yield 15 (some 40) (.bool false) rfl (by kernel_rfl) (by kernel_rfl) (by kernel_rfl) (fun _ _ _ h => h) rfl rfl ⟨hB, h1⟩ (fun w' h' => exec_extract _ 1 rfl #[.agg (u8s (List.replicate 27 0)), .bool false] (by rfl) _ rfl) ?_
              go_frame
              refine y_oper 16 (by kernel_rfl) rfl rfl (fun K' hK' => ?_)
              have lz18 := hB.size
              have lz19 := h1.lt
              have lz20 := h2.lt
              refine wp_new (some 6) rfl (alRb_impl_Product rfl) (fun Wz21 nnz22 => ?_)
              have bz23 := nnz22.below (Below.refl _ _) (Nat.le_refl _)
              replace hB := below_after hB bz23
              replace h1 := h1.after bz23
              replace h2 := h2.after bz23
              have hz24 : At Wz21 Wz13.heap.size (.cells (u8s (List.replicate 27 0)) 53 (0, 0)) := nnz22.at_
              refine hK' _ _ ⟨hB, h1⟩ (fun _ => trivial) ?_
              clear hK' K' nnz22 bz23
              go_frame
              refine y_oper 17 (by kernel_rfl) rfl rfl (fun K' hK' => ?_)
              refine wp_store_bytes 53 _ _ rfl rfl Wz13.heap.size rfl (List.replicate 27 0) rfl _ _ hz24 27 (by kernel_rfl) (by simp) (by simp) (fun Wz25 pz26 => ?_)
              replace hB := pz26.below hB (by omega)
              replace h1 := pz26.other h1 (by omega)
              replace h2 := pz26.other h2 (by omega)
              replace hz24 : At Wz25 Wz13.heap.size (.cells (u8s (List.replicate 27 0)) 53 (0, 0)) := pz26.at_
              refine hK' _ _ ⟨hB, h1⟩ (fun _ => trivial) ?_
              clear hK' K' pz26
              refine y_oper 18 (by kernel_rfl) rfl rfl (fun K' hK' => ?_)
              refine wp_exec (some 7) rfl (.bool false) (exec_assign _ rfl (.bool false) rfl) ?_
              refine hK' _ _ ⟨hB, h1⟩ (fun _ => trivial) ?_
              clear hK' K'
              go_frame
              refine y_done (by kernel_rfl) ?_ _
              go_upto_region 8 with (fail)
              refine wp_region_lit ?_
              refine ls_ex (some 41) (.bool false) rfl rfl (exec_move _ rfl (.bool false) rfl) ?_
              go_frame
              refine ls_ex (some 42) (.bool true) rfl rfl (exec_not _ _ rfl false rfl) ?_
              go_frame
              refine wpList_nil ?_
              go_upto_region 6 with (fail)
              refine wp_region_lit ?_
              refine ls_ex (some 23) (.int .i64 k) rfl rfl (exec_move _ rfl (.int .i64 k) rfl) ?_
              go_frame
              refine ls_ex (some 24) (.int .i64 (k + 1)) rfl rfl (exec_add _ _ _ _ rfl k 1 (k + 1) rfl rfl (IntWalk.i64_in _ (by omega))) ?_
              go_frame
              refine ls_ex (some 5) (.int .i64 (k + 1)) rfl rfl (exec_assign _ rfl (.int .i64 (k + 1)) rfl) ?_
              go_frame
              refine wpList_nil ?_
              go_wp2_with fail
              go_roundw
              case rel => exact ⟨k + 1, by omega, by omega, by go_num, HK2, hB, h1, h2⟩
              case measure => simp [intOf]; omega
            · have lz27 := hB.size
              have lz28 := h1.lt
              have lz29 := h2.lt
              refine wp_new (some 6) rfl (alRb_impl_Product rfl) (fun Wz30 nnz31 => ?_)
              have bz32 := nnz31.below (Below.refl _ _) (Nat.le_refl _)
              replace hB := below_after hB bz32
              replace h1 := h1.after bz32
              replace h2 := h2.after bz32
              have hz33 : At Wz30 wdz12.heap.size (.cells (u8s (List.replicate 27 0)) 53 (0, 0)) := nnz31.at_
              refine hK' _ _ ⟨hB, h1⟩ (fun _ => trivial) ?_
              clear hK' K' nnz31 bz32
              go_frame
              refine y_oper 12 (by kernel_rfl) rfl rfl (fun K' hK' => ?_)
              have lz36 := hB.size
              have lz37 := h1.lt
              have lz38 := h2.lt
              have lz39 := hz33.lt
              refine wp_call3 (some 38) rfl 86 _ _ _ _ rfl (fun args w => by kernel_rfl) _ _ _ rfl rfl rfl _ (l03Join_c p q r _ hpp HGQ.out HGR.out) (fun e Wz34 h => ?_)
              obtain ⟨rfl, bz35⟩ := h
              replace hB := below_after hB bz35
              replace h1 := h1.after bz35
              replace h2 := h2.after bz35
              replace hz33 := hz33.after bz35
              rw [HJ.out, unV_none]
              clear bz35
              refine ⟨_, rfl, ?_⟩
              refine hK' _ _ ⟨hB, h1⟩ (fun _ => trivial) ?_
              clear hK' K'
              go_frame
              refine y_yield 13 (some 25) (.tuple #[.agg (u8s (List.replicate 27 0)), .bool false]) rfl (by kernel_rfl) (by kernel_rfl) (by kernel_rfl) (fun _ _ _ h => h) rfl rfl ⟨hB, h1⟩ (fun w' h' => exec_move _ rfl (.tuple #[.agg (u8s (List.replicate 27 0)), .bool false]) rfl) ?_
              go_frame
              refine y_yield 14 (some 39) (.agg (u8s (List.replicate 27 0))) rfl (by kernel_rfl) (by kernel_rfl) (by kernel_rfl) (fun _ _ _ h => h) rfl rfl ⟨hB, h1⟩ (fun w' h' => exec_extract _ 0 rfl #[.agg (u8s (List.replicate 27 0)), .bool false] (by rfl) _ rfl) ?_
              go_frame
              refine y_yield 15 (some 40) (.bool false) rfl (by kernel_rfl) (by kernel_rfl) (by kernel_rfl) (fun _ _ _ h => h) rfl rfl ⟨hB, h1⟩ (fun w' h' => exec_extract _ 1 rfl #[.agg (u8s (List.replicate 27 0)), .bool false] (by rfl) _ rfl) ?_
              go_frame
              refine y_oper 17 (by kernel_rfl) rfl rfl (fun K' hK' => ?_)
              refine wp_store_bytes 53 _ _ rfl rfl wdz12.heap.size rfl (List.replicate 27 0) rfl _ _ hz33 27 (by kernel_rfl) (by simp) (by simp) (fun Wz40 pz41 => ?_)
              replace hB := pz41.below hB (by omega)
              replace h1 := pz41.other h1 (by omega)
              replace h2 := pz41.other h2 (by omega)
              replace hz33 : At Wz40 wdz12.heap.size (.cells (u8s (List.replicate 27 0)) 53 (0, 0)) := pz41.at_
              refine hK' _ _ ⟨hB, h1⟩ (fun _ => trivial) ?_
              clear hK' K' pz41
              refine y_oper 18 (by kernel_rfl) rfl rfl (fun K' hK' => ?_)
              refine wp_exec (some 7) rfl (.bool false) (exec_assign _ rfl (.bool false) rfl) ?_
              refine hK' _ _ ⟨hB, h1⟩ (fun _ => trivial) ?_
              clear hK' K'
              go_frame
              refine y_done (by kernel_rfl) ?_ _
              go_upto_region 8 with (fail)
              refine wp_region_lit ?_
              refine ls_ex (some 41) (.bool false) rfl rfl (exec_move _ rfl (.bool false) rfl) ?_
              go_frame
              refine ls_ex (some 42) (.bool true) rfl rfl (exec_not _ _ rfl false rfl) ?_
              go_frame
              refine wpList_nil ?_
              go_upto_region 6 with (fail)
              refine wp_region_lit ?_
              refine ls_ex (some 23) (.int .i64 k) rfl rfl (exec_move _ rfl (.int .i64 k) rfl) ?_
              go_frame
              refine ls_ex (some 24) (.int .i64 (k + 1)) rfl rfl (exec_add _ _ _ _ rfl k 1 (k + 1) rfl rfl (IntWalk.i64_in _ (by omega))) ?_
              go_frame
              refine ls_ex (some 5) (.int .i64 (k + 1)) rfl rfl (exec_assign _ rfl (.int .i64 (k + 1)) rfl) ?_
              go_frame
              refine wpList_nil ?_
              go_wp2_with fail
              go_roundw
              case rel => exact ⟨k + 1, by omega, by omega, by go_num, HK2, hB, h1, h2⟩
              case measure => simp [intOf]; omega
          · have HJ := Lib.hid hj
            have HHR := Lib.hid (joF_hr hpp HGQ.out HGR.out hj)
            have HOb := Lib.hid HHR.out.b
            clear hj
            obtain ⟨N, hN⟩ : ∃ z9, normQ p one = z9 := ⟨_, rfl⟩
            have Hu : Hid (reF p q r = some N) := Lib.hid (by unfold reF; rw [HJ.out, Option.map_some, hN])
            have HX : Hid (unN (reF p) qs = some (stepL qs i k N)) := Lib.hid (by have h9 := HK.out; rw [show L - k = qs.length - k by rw [HL.out], unK_some HQ.out HR.out Hu.out] at h9; exact h9.symm)
            exact absurd (HX.out.symm.trans HN0.out) (by simp)
        · have HNn : Hid (unI (reF p) qs (L - (i + 1)) = unN (reF p) qs) := Lib.hid (by have h9 := HK.out; rw [show L - k = 0 by omega] at h9; exact h9)
          go_upto_region 5 with (fail)
          refine wp_region_lit ?_
          refine ls_ex (some 18) (.int .i64 k) rfl rfl (exec_move _ rfl (.int .i64 k) rfl) ?_
          go_frame
          refine ls_ex (some 19) (.pointer (some ⟨w.heap.size, 4, none⟩)) rfl rfl (exec_fieldAddr 28 _ 4 rfl _ (by kernel_rfl)) ?_
          go_frame
          refine ls_ex (some 20) (.slice (some ⟨g, 0, none⟩) L c) rfl rfl (exec_load_one 26 _ rfl w.heap.size 4 rfl (.slice (some ⟨g, 0, none⟩) L c) _ Try.underlying26 rfl (h1.at_ 4)) ?_
          go_frame
          refine ls_ex (some 21) (.int .i64 L) rfl rfl (exec_len _ 26 53 rfl ((some ⟨g, 0, none⟩)) L c rfl Try.underlying26) ?_
          go_frame
          refine ls_ex (some 22) (.bool false) rfl rfl (exec_lss _ _ _ _ rfl k L rfl rfl false (decide_eq_false (by omega))) ?_
          go_frame
          refine wpList_nil ?_
          go_upto_region 3 with (fail)
          refine wp_region_lit ?_
          refine ls_ex (some 14) (.int .i64 i) rfl rfl (exec_move _ rfl (.int .i64 i) rfl) ?_
          go_frame
          refine ls_ex (some 15) (.int .i64 (i + 1)) rfl rfl (exec_add _ _ _ _ rfl i 1 (i + 1) rfl rfl (IntWalk.i64_in _ (by omega))) ?_
          go_frame
          refine ls_ex (some 4) (.int .i64 (i + 1)) rfl rfl (exec_assign _ rfl (.int .i64 (i + 1)) rfl) ?_
          go_frame
          refine wpList_nil ?_
          go_wp2_with fail
          go_roundw
          case rel => exact ⟨i + 1, by omega, by go_num, HNn, hB, h1, h2⟩
          case measure => simp [intOf]; omega
    · go_upto_region 2 with (fail)
      refine wp_region_lit ?_
      refine ls_ex (some 9) (.int .i64 i) rfl rfl (exec_move _ rfl (.int .i64 i) rfl) ?_
      go_frame
      refine ls_ex (some 10) (.pointer (some ⟨w.heap.size, 4, none⟩)) rfl rfl (exec_fieldAddr 28 _ 4 rfl _ (by kernel_rfl)) ?_
      go_frame
      refine ls_ex (some 11) (.slice A L c) rfl rfl (exec_load_one 26 _ rfl w.heap.size 4 rfl (.slice A L c) _ Try.underlying26 rfl (h1.at_ 4)) ?_
      go_frame
      refine ls_ex (some 12) (.int .i64 L) rfl rfl (exec_len _ 26 53 rfl A L c rfl Try.underlying26) ?_
      go_frame
      refine ls_ex (some 13) (.bool false) rfl rfl (exec_lss _ _ _ _ rfl i L rfl rfl false (decide_eq_false (by omega))) ?_
      go_frame
      refine wpList_nil ?_
      go_upto_region 13 with (fail)
      refine wp_region_lit ?_
      refine ls_ex (some 64) (.agg #[.int .i64 p, .int .i64 n, .int .i64 m, .int .i64 k0, .slice A L c]) rfl rfl (exec_load_all 28 _ rfl w.heap.size rfl _ _ _ h1 Try.underlying28 rfl 5 (by kernel_rfl) rfl) ?_
      go_frame
      refine ls_op rfl (fun K' hK' => ?_)
      refine wp_store_all 28 _ _ rfl rfl Wz2.heap.size rfl #[.int .i64 p, .int .i64 n, .int .i64 m, .int .i64 k0, .slice A L c] rfl _ _ h2 5 (by kernel_rfl) rfl rfl (one5 _ _ _ _ _ _ _) (fun Wz42 pz43 => ?_)
      replace hB := pz43.below hB (by omega)
      replace h1 := pz43.other h1 (by omega)
      replace h2 : At Wz42 Wz2.heap.size (.cells #[.int .i64 p, .int .i64 n, .int .i64 m, .int .i64 k0, .slice A L c] 28 (0, 0)) := pz43.at_
      refine hK' _ _ ?_
      clear hK' K' pz43
      refine ls_ex (some 3) (.bool false) rfl rfl (exec_assign _ rfl (.bool false) rfl) ?_
      go_frame
      refine wpList_nil ?_
      go_wp2_with fail
      refine bodyPost_ret (results_at2 rfl _ _ Wz2.heap.size _ _ _ rfl _ rfl h2 Try.underlying28 rfl 5 (by kernel_rfl) rfl) rfl ?_
      exact ⟨rfl, hB⟩
set_option maxHeartbeats 25600000 in
theorem l03Step_some (p n m k0 : Int) (lo : Nat) (A : Option Addr) (c L : Nat) (qs : List (List Nat)) (w : World) (hpp : primeB p = true) (ho0 : Own w lo (.slice A L c) qs) (hG : ∀ q ∈ qs, GR p q) (hlen : L ≤ 500) (hL : qs.length = L) (X : List (List Nat)) (hn : unN (reF p) qs = some X) :
    Calls Try.prog 55 #[.agg #[.int .i64 p, .int .i64 n, .int .i64 m, .int .i64 k0, .slice A L c]] w (fun e w' => ∃ v, e = .returned (.tuple #[.agg #[.int .i64 p, .int .i64 n, .int .i64 m, .int .i64 k0, v], .bool true]) ∧ Own w' w.heap.size v X ∧ Below w.heap.size w w') := by
  have hB := Below.refl w.heap.size w
  have HG := Lib.hid hG
  have HCb : Hid (∀ q ∈ qs, Bytes 27 q) := Lib.hid (fun x hx => (hG x hx).b)
  have HL := Lib.hid hL
  have HN0 := Lib.hid hn
  clear hG hL hn
  go_enter Try.func55, Try.ntmps55
  go_upto_region 0 with (fail)
  refine wp_region_lit ?_
  refine ls_op rfl (fun K' hK' => ?_)
  have lz1 := hB.size
  refine wp_new (some 1) rfl (exec_box 28 _ rfl (#[.int .i64 p, .int .i64 n, .int .i64 m, .int .i64 k0, .slice A L c]) rfl) (fun Wz2 nnz3 => ?_)
  have bz4 := nnz3.below (Below.refl _ _) (Nat.le_refl _)
  replace hB := below_after hB bz4
  have hz5 : At Wz2 w.heap.size (.cells #[.int .i64 p, .int .i64 n, .int .i64 m, .int .i64 k0, .slice A L c] 28 (0, 0)) := nnz3.at_
  refine hK' _ _ ?_
  clear hK' K' nnz3 bz4
  go_frame
  refine ls_op rfl (fun K' hK' => ?_)
  have lz6 := hB.size
  have lz7 := hz5.lt
  refine wp_new (some 2) rfl (alRb_impl_Scheme rfl) (fun Wz8 nnz9 => ?_)
  have bz10 := nnz9.below (Below.refl _ _) (Nat.le_refl _)
  replace hB := below_after hB bz10
  replace hz5 := hz5.after bz10
  have hz11 : At Wz8 Wz2.heap.size (.cells #[.int .i64 0, .int .i64 0, .int .i64 0, .int .i64 0, .slice none 0 0] 28 (0, 0)) := nnz9.at_
  refine hK' _ _ ?_
  clear hK' K' nnz9 bz10
  go_frame
  refine ls_ex (some 3) (.bool false) rfl rfl (exec_assign _ rfl (.bool false) rfl) ?_
  go_frame
  refine wpList_nil ?_
  go_upto_region 1 with (fail)
  refine wp_region_lit ?_
  refine ls_ex (some 4) (.int .i64 0) rfl rfl (exec_assign _ rfl (.int .i64 0) rfl) ?_
  go_frame
  refine wpList_nil ?_
  go_wp2_with fail
  go_loopw [4] (fun s4 wr => ∃ i : Nat, i ≤ L ∧ s4 = .int .i64 i ∧ Hid (unI (reF p) qs (L - i) = unN (reF p) qs) ∧ Below w.heap.size w wr ∧ At wr w.heap.size (.cells #[.int .i64 p, .int .i64 n, .int .i64 m, .int .i64 k0, .slice A L c] 28 (0, 0)) ∧ At wr Wz2.heap.size (.cells #[.int .i64 0, .int .i64 0, .int .i64 0, .int .i64 0, .slice none 0 0] 28 (0, 0))) (fun s4 _ => L - (intOf s4).toNat)
  case atStart => exact ⟨0, by omega, rfl, Lib.hid (by rw [Nat.sub_zero, ← HL.out]; rfl), hB, hz5, hz11⟩
  case round =>
    clear hB hz5 hz11
    obtain ⟨i, hle, rfl, HN, hB, h1, h2⟩ := hrel
    by_cases hlt : i < L
    · have hi : i < qs.length := by rw [HL.out]; exact hlt
      obtain ⟨g, rfl, hg⟩ := ho0.blk (by omega)
      obtain ⟨q, hq⟩ : ∃ z9, qs[i]? = some z9 := ⟨_, List.getElem?_eq_getElem hi⟩
      have HQ := Lib.hid hq
      have HGQ := Lib.hid (HG.out q (List.mem_of_getElem? hq))
      have HQb := Lib.hid HGQ.out.b
      clear hq
      have HN2 : Hid ((unK (reF p) qs i (L - (i + 1))).or (unI (reF p) qs (L - (i + 1))) = unN (reF p) qs) := Lib.hid (by rw [← HN.out]; have h9 := unI_step (un := reF p) hi; rw [HL.out] at h9; exact h9.symm)
      go_upto_region 2 with (fail)
      refine wp_region_lit ?_
      refine ls_ex (some 9) (.int .i64 i) rfl rfl (exec_move _ rfl (.int .i64 i) rfl) ?_
      go_frame
      refine ls_ex (some 10) (.pointer (some ⟨w.heap.size, 4, none⟩)) rfl rfl (exec_fieldAddr 28 _ 4 rfl _ (by kernel_rfl)) ?_
      go_frame
      refine ls_ex (some 11) (.slice (some ⟨g, 0, none⟩) L c) rfl rfl (exec_load_one 26 _ rfl w.heap.size 4 rfl (.slice (some ⟨g, 0, none⟩) L c) _ Try.underlying26 rfl (h1.at_ 4)) ?_
      go_frame
      refine ls_ex (some 12) (.int .i64 L) rfl rfl (exec_len _ 26 53 rfl ((some ⟨g, 0, none⟩)) L c rfl Try.underlying26) ?_
      go_frame
      refine ls_ex (some 13) (.bool true) rfl rfl (exec_lss _ _ _ _ rfl i L rfl rfl true (decide_eq_true (by omega))) ?_
      go_frame
      refine wpList_nil ?_
      go_upto_region 4 with (fail)
      refine wp_region_lit ?_
      refine ls_ex (some 16) (.int .i64 i) rfl rfl (exec_move _ rfl (.int .i64 i) rfl) ?_
      go_frame
      refine ls_ex (some 17) (.int .i64 (i + 1)) rfl rfl (exec_add _ _ _ _ rfl i 1 (i + 1) rfl rfl (IntWalk.i64_in _ (by omega))) ?_
      go_frame
      refine ls_ex (some 5) (.int .i64 (i + 1)) rfl rfl (exec_assign _ rfl (.int .i64 (i + 1)) rfl) ?_
      go_frame
      refine wpList_nil ?_
      go_wp2_with fail
      obtain ⟨we, rfl⟩ : ∃ x : World, x = wr := ⟨_, rfl⟩
      go_loopw [5] (fun s5 wr => ∃ k : Nat, i < k ∧ k ≤ L ∧ s5 = .int .i64 k ∧ Hid ((unK (reF p) qs i (L - k)).or (unI (reF p) qs (L - (i + 1))) = unN (reF p) qs) ∧ Below w.heap.size w wr ∧ At wr w.heap.size (.cells #[.int .i64 p, .int .i64 n, .int .i64 m, .int .i64 k0, .slice (some ⟨g, 0, none⟩) L c] 28 (0, 0)) ∧ At wr Wz2.heap.size (.cells #[.int .i64 0, .int .i64 0, .int .i64 0, .int .i64 0, .slice none 0 0] 28 (0, 0))) (fun s5 _ => L - (intOf s5).toNat)
      case atStart => exact ⟨i + 1, by omega, by omega, by go_num, HN2, hB, h1, h2⟩
      case round =>
        clear hB h1 h2
        obtain ⟨k, hik, hk, rfl, HK, hB, h1, h2⟩ := hrel
        by_cases hlt2 : k < L
        · have hkc : k < qs.length := by rw [HL.out]; exact hlt2
          obtain ⟨r, hr⟩ : ∃ z9, qs[k]? = some z9 := ⟨_, List.getElem?_eq_getElem hkc⟩
          have HR := Lib.hid hr
          have HGR := Lib.hid (HG.out r (List.mem_of_getElem? hr))
          have HRb := Lib.hid HGR.out.b
          clear hr
          rcases hj : joF p q r with _ | one
          · have HJ := Lib.hid hj
            clear hj
            have Hu : Hid (reF p q r = none) := Lib.hid (by unfold reF; rw [HJ.out]; rfl)
            have HK2 : Hid ((unK (reF p) qs i (L - (k + 1))).or (unI (reF p) qs (L - (i + 1))) = unN (reF p) qs) := Lib.hid (by have h9 := HK.out; rw [show L - k = qs.length - k by rw [HL.out], unK_none HQ.out HR.out Hu.out, HL.out] at h9; exact h9)
            go_upto_region 5 with (fail)
            refine wp_region_lit ?_
            refine ls_ex (some 18) (.int .i64 k) rfl rfl (exec_move _ rfl (.int .i64 k) rfl) ?_
            go_frame
            refine ls_ex (some 19) (.pointer (some ⟨w.heap.size, 4, none⟩)) rfl rfl (exec_fieldAddr 28 _ 4 rfl _ (by kernel_rfl)) ?_
            go_frame
            refine ls_ex (some 20) (.slice (some ⟨g, 0, none⟩) L c) rfl rfl (exec_load_one 26 _ rfl w.heap.size 4 rfl (.slice (some ⟨g, 0, none⟩) L c) _ Try.underlying26 rfl (h1.at_ 4)) ?_
            go_frame
            refine ls_ex (some 21) (.int .i64 L) rfl rfl (exec_len _ 26 53 rfl ((some ⟨g, 0, none⟩)) L c rfl Try.underlying26) ?_
            go_frame
            refine ls_ex (some 22) (.bool true) rfl rfl (exec_lss _ _ _ _ rfl k L rfl rfl true (decide_eq_true (by omega))) ?_
            go_frame
            refine wpList_nil ?_
            go_upto_region 7 with (fail)
            refine wp_region_y (zs := []) (S := fun w' => Below w.heap.size w w' ∧ At w' w.heap.size (.cells #[.int .i64 p, .int .i64 n, .int .i64 m, .int .i64 k0, .slice (some ⟨g, 0, none⟩) L c] 28 (0, 0))) (S2 := fun w' => True) (by kernel_rfl) ?_
            change wpAnyY _ _ _ _ _ _ _ _ _ _ (World.drew _)
            generalize hwdz12 : World.drew _ = wdz12
            replace hB : Below w.heap.size w wdz12 := by rw [← hwdz12]; exact hB.drew
            replace h1 : At wdz12 w.heap.size (.cells #[.int .i64 p, .int .i64 n, .int .i64 m, .int .i64 k0, .slice (some ⟨g, 0, none⟩) L c] 28 (0, 0)) := by rw [← hwdz12]; exact h1
            replace h2 : At wdz12 Wz2.heap.size (.cells #[.int .i64 0, .int .i64 0, .int .i64 0, .int .i64 0, .slice none 0 0] 28 (0, 0)) := by rw [← hwdz12]; exact h2
            clear hwdz12
            refine y_yield 0 (some 26) (.pointer (some ⟨w.heap.size, 0, none⟩)) rfl (by kernel_rfl) (by kernel_rfl) (by kernel_rfl) (fun _ _ _ h => h) rfl rfl ⟨hB, h1⟩ (fun w' h' => exec_fieldAddr 28 _ 0 rfl _ (by kernel_rfl)) ?_
            go_frame
            refine y_yield 1 (some 27) (.int .i64 p) rfl (by kernel_rfl) (by kernel_rfl) (by kernel_rfl) (fun _ _ _ h => h) rfl rfl ⟨hB, h1⟩ (fun w' h' => exec_load_one 2 _ rfl w.heap.size 0 rfl (.int .i64 p) _ Try.underlying2 rfl (h'.2.at_ 0)) ?_
            go_frame
            refine y_yield 2 (some 28) (.pointer (some ⟨w.heap.size, 4, none⟩)) rfl (by kernel_rfl) (by kernel_rfl) (by kernel_rfl) (fun _ _ _ h => h) rfl rfl ⟨hB, h1⟩ (fun w' h' => exec_fieldAddr 28 _ 4 rfl _ (by kernel_rfl)) ?_
            go_frame
            refine y_yield 3 (some 29) (.slice (some ⟨g, 0, none⟩) L c) rfl (by kernel_rfl) (by kernel_rfl) (by kernel_rfl) (fun _ _ _ h => h) rfl rfl ⟨hB, h1⟩ (fun w' h' => exec_load_one 26 _ rfl w.heap.size 4 rfl (.slice (some ⟨g, 0, none⟩) L c) _ Try.underlying26 rfl (h'.2.at_ 4)) ?_
            go_frame
            refine y_yield 4 (some 30) (.int .i64 i) rfl (by kernel_rfl) (by kernel_rfl) (by kernel_rfl) (fun _ _ _ h => h) rfl rfl ⟨hB, h1⟩ (fun w' h' => exec_move _ rfl (.int .i64 i) rfl) ?_
            go_frame
            refine y_yield 5 (some 31) (.pointer (some ⟨g, i * 27, none⟩)) rfl (by kernel_rfl) (by kernel_rfl) (by kernel_rfl) (fun _ _ _ h => h) rfl rfl ⟨hB, h1⟩ (fun w' h' => exec_ix0 _ 53 _ _ rfl g L c i 27 rfl rfl Try.underlying26 (by kernel_rfl) (by omega)) ?_
            go_frame
            refine y_yield 6 (some 32) (.agg (u8s (q))) rfl (by kernel_rfl) (by kernel_rfl) (by kernel_rfl) (fun _ _ _ h => h) rfl rfl ⟨hB, h1⟩ (fun w' h' => exec_load_cells 53 _ rfl g (i * 27) rfl (q) _ 27 (Own.c27u (ho0.below h'.1) HCb.out HQ.out) Try.underlying53 rfl (by kernel_rfl) (HQb.out.len)) ?_
            go_frame
            refine y_yield 7 (some 33) (.pointer (some ⟨w.heap.size, 4, none⟩)) rfl (by kernel_rfl) (by kernel_rfl) (by kernel_rfl) (fun _ _ _ h => h) rfl rfl ⟨hB, h1⟩ (fun w' h' => exec_fieldAddr 28 _ 4 rfl _ (by kernel_rfl)) ?_
            go_frame
            refine y_yield 8 (some 34) (.slice (some ⟨g, 0, none⟩) L c) rfl (by kernel_rfl) (by kernel_rfl) (by kernel_rfl) (fun _ _ _ h => h) rfl rfl ⟨hB, h1⟩ (fun w' h' => exec_load_one 26 _ rfl w.heap.size 4 rfl (.slice (some ⟨g, 0, none⟩) L c) _ Try.underlying26 rfl (h'.2.at_ 4)) ?_
            go_frame
            refine y_yield 9 (some 35) (.int .i64 k) rfl (by kernel_rfl) (by kernel_rfl) (by kernel_rfl) (fun _ _ _ h => h) rfl rfl ⟨hB, h1⟩ (fun w' h' => exec_move _ rfl (.int .i64 k) rfl) ?_
            go_frame
            refine y_yield 10 (some 36) (.pointer (some ⟨g, k * 27, none⟩)) rfl (by kernel_rfl) (by kernel_rfl) (by kernel_rfl) (fun _ _ _ h => h) rfl rfl ⟨hB, h1⟩ (fun w' h' => exec_ix0 _ 53 _ _ rfl g L c k 27 rfl rfl Try.underlying26 (by kernel_rfl) (by omega)) ?_
            go_frame
            refine y_yield 11 (some 37) (.agg (u8s (r))) rfl (by kernel_rfl) (by kernel_rfl) (by kernel_rfl) (fun _ _ _ h => h) rfl rfl ⟨hB, h1⟩ (fun w' h' => exec_load_cells 53 _ rfl g (k * 27) rfl (r) _ 27 (Own.c27u (ho0.below h'.1) HCb.out HR.out) Try.underlying53 rfl (by kernel_rfl) (HRb.out.len)) ?_
            go_frame
            refine y_two 12 16 (by kernel_rfl) rfl rfl rfl rfl (fun K' hK' => ?_) (fun K' hK' => ?_)
            · have lz15 := hB.size
              have lz16 := h1.lt
              have lz17 := h2.lt
              refine wp_call3 (some 38) rfl 86 _ _ _ _ rfl (fun args w => by kernel_rfl) _ _ _ rfl rfl rfl _ (l03Join_c p q r _ hpp HGQ.out HGR.out) (fun e Wz13 h => ?_)
              obtain ⟨rfl, bz14⟩ := h
              replace hB := below_after hB bz14
              replace h1 := h1.after bz14
              replace h2 := h2.after bz14
              rw [HJ.out, unV_none]
              clear bz14
              refine ⟨_, rfl, ?_⟩
              refine hK' _ _ ⟨hB, h1⟩ (fun _ => trivial) ?_
              clear hK' K'
              go_frame
              refine y_yield 13 (some 25) (.tuple #[.agg (u8s (List.replicate 27 0)), .bool false]) rfl (by kernel_rfl) (by kernel_rfl) (by kernel_rfl) (fun _ _ _ h => h) rfl rfl ⟨hB, h1⟩ (fun w' h' => exec_move _ rfl (.tuple #[.agg (u8s (List.replicate 27 0)), .bool false]) rfl) ?_
              go_frame
              refine y_yield 14 (some 39) (.agg (u8s (List.replicate 27 0))) rfl (by kernel_rfl) (by kernel_rfl) (by kernel_rfl) (fun _ _ _ h => h) rfl rfl ⟨hB, h1⟩ (fun w' h' => exec_extract _ 0 rfl #[.agg (u8s (List.replicate 27 0)), .bool false] (by rfl) _ rfl) ?_
              go_frame
              refine y_yield 15 (some 40) (.bool false) rfl (by kernel_rfl) (by kernel_rfl) (by kernel_rfl) (fun _ _ _ h => h) rfl rfl ⟨hB, h1⟩ (fun w' h' => exec_extract _ 1 rfl #[.agg (u8s (List.replicate 27 0)), .bool false] (by rfl) _ rfl) ?_
              go_frame
              refine y_oper 16 (by kernel_rfl) rfl rfl (fun K' hK' => ?_)
              have lz18 := hB.size
              have lz19 := h1.lt
              have lz20 := h2.lt
              refine wp_new (some 6) rfl (alRb_impl_Product rfl) (fun Wz21 nnz22 => ?_)
              have bz23 := nnz22.below (Below.refl _ _) (Nat.le_refl _)
              replace hB := below_after hB bz23
              replace h1 := h1.after bz23
              replace h2 := h2.after bz23
              have hz24 : At Wz21 Wz13.heap.size (.cells (u8s (List.replicate 27 0)) 53 (0, 0)) := nnz22.at_
              refine hK' _ _ ⟨hB, h1⟩ (fun _ => trivial) ?_
              clear hK' K' nnz22 bz23
              go_frame
              refine y_oper 17 (by kernel_rfl) rfl rfl (fun K' hK' => ?_)
              refine wp_store_bytes 53 _ _ rfl rfl Wz13.heap.size rfl (List.replicate 27 0) rfl _ _ hz24 27 (by kernel_rfl) (by simp) (by simp) (fun Wz25 pz26 => ?_)
              replace hB := pz26.below hB (by omega)
              replace h1 := pz26.other h1 (by omega)
              replace h2 := pz26.other h2 (by omega)
              replace hz24 : At Wz25 Wz13.heap.size (.cells (u8s (List.replicate 27 0)) 53 (0, 0)) := pz26.at_
              refine hK' _ _ ⟨hB, h1⟩ (fun _ => trivial) ?_
              clear hK' K' pz26
              refine y_oper 18 (by kernel_rfl) rfl rfl (fun K' hK' => ?_)
              refine wp_exec (some 7) rfl (.bool false) (exec_assign _ rfl (.bool false) rfl) ?_
              refine hK' _ _ ⟨hB, h1⟩ (fun _ => trivial) ?_
              clear hK' K'
              go_frame
              refine y_done (by kernel_rfl) ?_ _
              go_upto_region 8 with (fail)
              refine wp_region_lit ?_
              refine ls_ex (some 41) (.bool false) rfl rfl (exec_move _ rfl (.bool false) rfl) ?_
              go_frame
              refine ls_ex (some 42) (.bool true) rfl rfl (exec_not _ _ rfl false rfl) ?_
              go_frame
              refine wpList_nil ?_
              go_upto_region 6 with (fail)
              refine wp_region_lit ?_
              refine ls_ex (some 23) (.int .i64 k) rfl rfl (exec_move _ rfl (.int .i64 k) rfl) ?_
              go_frame
              refine ls_ex (some 24) (.int .i64 (k + 1)) rfl rfl (exec_add _ _ _ _ rfl k 1 (k + 1) rfl rfl (IntWalk.i64_in _ (by omega))) ?_
              go_frame
              refine ls_ex (some 5) (.int .i64 (k + 1)) rfl rfl (exec_assign _ rfl (.int .i64 (k + 1)) rfl) ?_
              go_frame
              refine wpList_nil ?_
              go_wp2_with fail
              go_roundw
              case rel => exact ⟨k + 1, by omega, by omega, by go_num, HK2, hB, h1, h2⟩
              case measure => simp [intOf]; omega
            · have lz27 := hB.size
              have lz28 := h1.lt
              have lz29 := h2.lt
              refine wp_new (some 6) rfl (alRb_impl_Product rfl) (fun Wz30 nnz31 => ?_)
              have bz32 := nnz31.below (Below.refl _ _) (Nat.le_refl _)
              replace hB := below_after hB bz32
              replace h1 := h1.after bz32
              replace h2 := h2.after bz32
              have hz33 : At Wz30 wdz12.heap.size (.cells (u8s (List.replicate 27 0)) 53 (0, 0)) := nnz31.at_
              refine hK' _ _ ⟨hB, h1⟩ (fun _ => trivial) ?_
              clear hK' K' nnz31 bz32
              go_frame
              refine y_oper 12 (by kernel_rfl) rfl rfl (fun K' hK' => ?_)
              have lz36 := hB.size
              have lz37 := h1.lt
              have lz38 := h2.lt
              have lz39 := hz33.lt
              refine wp_call3 (some 38) rfl 86 _ _ _ _ rfl (fun args w => by kernel_rfl) _ _ _ rfl rfl rfl _ (l03Join_c p q r _ hpp HGQ.out HGR.out) (fun e Wz34 h => ?_)
              obtain ⟨rfl, bz35⟩ := h
              replace hB := below_after hB bz35
              replace h1 := h1.after bz35
              replace h2 := h2.after bz35
              replace hz33 := hz33.after bz35
              rw [HJ.out, unV_none]
              clear bz35
              refine ⟨_, rfl, ?_⟩
              refine hK' _ _ ⟨hB, h1⟩ (fun _ => trivial) ?_
              clear hK' K'
              go_frame
              refine y_yield 13 (some 25) (.tuple #[.agg (u8s (List.replicate 27 0)), .bool false]) rfl (by kernel_rfl) (by kernel_rfl) (by kernel_rfl) (fun _ _ _ h => h) rfl rfl ⟨hB, h1⟩ (fun w' h' => exec_move _ rfl (.tuple #[.agg (u8s (List.replicate 27 0)), .bool false]) rfl) ?_
              go_frame
              refine y_yield 14 (some 39) (.agg (u8s (List.replicate 27 0))) rfl (by kernel_rfl) (by kernel_rfl) (by kernel_rfl) (fun _ _ _ h => h) rfl rfl ⟨hB, h1⟩ (fun w' h' => exec_extract _ 0 rfl #[.agg (u8s (List.replicate 27 0)), .bool false] (by rfl) _ rfl) ?_
              go_frame
              refine y_yield 15 (some 40) (.bool false) rfl (by kernel_rfl) (by kernel_rfl) (by kernel_rfl) (fun _ _ _ h => h) rfl rfl ⟨hB, h1⟩ (fun w' h' => exec_extract _ 1 rfl #[.agg (u8s (List.replicate 27 0)), .bool false] (by rfl) _ rfl) ?_
              go_frame
              refine y_oper 17 (by kernel_rfl) rfl rfl (fun K' hK' => ?_)
              refine wp_store_bytes 53 _ _ rfl rfl wdz12.heap.size rfl (List.replicate 27 0) rfl _ _ hz33 27 (by kernel_rfl) (by simp) (by simp) (fun Wz40 pz41 => ?_)
              replace hB := pz41.below hB (by omega)
              replace h1 := pz41.other h1 (by omega)
              replace h2 := pz41.other h2 (by omega)
              replace hz33 : At Wz40 wdz12.heap.size (.cells (u8s (List.replicate 27 0)) 53 (0, 0)) := pz41.at_
              refine hK' _ _ ⟨hB, h1⟩ (fun _ => trivial) ?_
              clear hK' K' pz41
              refine y_oper 18 (by kernel_rfl) rfl rfl (fun K' hK' => ?_)
              refine wp_exec (some 7) rfl (.bool false) (exec_assign _ rfl (.bool false) rfl) ?_
              refine hK' _ _ ⟨hB, h1⟩ (fun _ => trivial) ?_
              clear hK' K'
              go_frame
              refine y_done (by kernel_rfl) ?_ _
              go_upto_region 8 with (fail)
              refine wp_region_lit ?_
              refine ls_ex (some 41) (.bool false) rfl rfl (exec_move _ rfl (.bool false) rfl) ?_
              go_frame
              refine ls_ex (some 42) (.bool true) rfl rfl (exec_not _ _ rfl false rfl) ?_
              go_frame
              refine wpList_nil ?_
              go_upto_region 6 with (fail)
              refine wp_region_lit ?_
              refine ls_ex (some 23) (.int .i64 k) rfl rfl (exec_move _ rfl (.int .i64 k) rfl) ?_
              go_frame
              refine ls_ex (some 24) (.int .i64 (k + 1)) rfl rfl (exec_add _ _ _ _ rfl k 1 (k + 1) rfl rfl (IntWalk.i64_in _ (by omega))) ?_
              go_frame
              refine ls_ex (some 5) (.int .i64 (k + 1)) rfl rfl (exec_assign _ rfl (.int .i64 (k + 1)) rfl) ?_
              go_frame
              refine wpList_nil ?_
              go_wp2_with fail
              go_roundw
              case rel => exact ⟨k + 1, by omega, by omega, by go_num, HK2, hB, h1, h2⟩
              case measure => simp [intOf]; omega
          · have HJ := Lib.hid hj
            have HHR := Lib.hid (joF_hr hpp HGQ.out HGR.out hj)
            have HOb := Lib.hid HHR.out.b
            clear hj
            obtain ⟨N, hN⟩ : ∃ z9, normQ p one = z9 := ⟨_, rfl⟩
            have Hu : Hid (reF p q r = some N) := Lib.hid (by unfold reF; rw [HJ.out, Option.map_some, hN])
            have HX : Hid (unN (reF p) qs = some (stepL qs i k N)) := Lib.hid (by have h9 := HK.out; rw [show L - k = qs.length - k by rw [HL.out], unK_some HQ.out HR.out Hu.out] at h9; exact h9.symm)
            have HRS : Hid (X = stepL qs i k N) := Lib.hid (by have h9 := HX.out.symm.trans HN0.out; simpa using h9.symm)
            have HTk : Hid ((qs.take k).length = k) := Lib.hid (by rw [List.length_take, HL.out]; omega)
            have HDl : Hid ((qs.drop (k + 1)).length = L - (k + 1)) := Lib.hid (by rw [List.length_drop, HL.out])
            have hcap := ho0.cap
            obtain ⟨OE, hOE⟩ : ∃ z9, (if c = k + 1 then 0 else (k + 1) * 27) = z9 := ⟨_, rfl⟩
            have HOE := Lib.hid hOE
            have HOE2 : Hid (qs.length ≤ k + 1 ∨ OE = (k + 1) * 27) := Lib.hid (by rw [← hOE, HL.out]; split <;> omega)
            clear hOE
            obtain ⟨L0, hL0⟩ : ∃ z9, qs.take k ++ qs.drop (k + 1) = z9 := ⟨_, rfl⟩
            have HL0 := Lib.hid hL0
            obtain ⟨N7, hN7⟩ : ∃ z9, L0.length = z9 := ⟨_, rfl⟩
            have hN7e : N7 = k + (L - (k + 1)) := by rw [← hN7, ← hL0, List.length_append, HTk.out, HDl.out]
            have hN7a : N7 ≤ L := by omega
            have hN7b : k ≤ N7 := by omega
            have HN7 := Lib.hid hN7
            have HLi : Hid (i < L0.length) := Lib.hid (by rw [hN7]; omega)
            have HL0b : Hid (∀ q ∈ L0, Bytes 27 q) := Lib.hid (fun x hx => by rw [← hL0] at hx; exact (List.mem_append.1 hx).elim (fun h => HCb.out x (List.mem_of_mem_take h)) (fun h => HCb.out x (List.mem_of_mem_drop h)))
            have HL27 : Hid (∀ q ∈ L0, q.length = 27) := Lib.hid (fun x hx => (HL0b.out x hx).len)
            obtain ⟨LS, hLS⟩ : ∃ z9, L0.set i one = z9 := ⟨_, rfl⟩
            have HLS := Lib.hid hLS
            have hLSe : LS = (qs.set i one).eraseIdx k := by rw [← hLS, ← hL0, rd_list hik]; rw [HTk.out]; exact hik
            have HN7s : Hid (LS.length = N7) := Lib.hid (by rw [← hLS, List.length_set, hN7])
            have HLb : Hid (∀ q ∈ LS, Bytes 27 q) := Lib.hid (fun x hx => by rw [← hLS] at hx; exact (List.mem_or_eq_of_mem_set hx).elim (HL0b.out x) (fun e => by subst e; exact HOb.out))
            obtain ⟨LF, hLF⟩ : ∃ z9, LS.filter nzB = z9 := ⟨_, rfl⟩
            have HLF := Lib.hid hLF
            obtain ⟨N6, hN6⟩ : ∃ z9, LF.length = z9 := ⟨_, rfl⟩
            have hN6a : N6 ≤ N7 := by rw [← hN6, ← hLF, ← HN7s.out]; exact List.length_filter_le _ _
            have HN6 := Lib.hid hN6
            have HFb : Hid (∀ q ∈ LF, Bytes 27 q) := Lib.hid (fun x hx => by rw [← hLF] at hx; exact HLb.out x (List.mem_filter.1 hx).1)
            have HFl : Hid (∀ q ∈ LF, LeadOk p q) := Lib.hid (fun x hx => by
              rw [← hLF, hLSe] at hx
              rcases List.mem_or_eq_of_mem_set (List.mem_of_mem_eraseIdx (List.mem_filter.1 hx).1) with h | h
              · exact (HG.out x h).hr.lead
              · rw [h]; exact HHR.out.lead)
            have HNX : Hid (LF.map (normQ p) = stepL qs i k N) := Lib.hid (by rw [← hLF, hLSe, ← hN]; exact red_list hpp HG.out HHR.out)
            obtain ⟨N5, hN5⟩ : ∃ z9, (stepL qs i k N).length = z9 := ⟨_, rfl⟩
            have HN5 := Lib.hid hN5
            clear hN hL0 hN7 hN7e hLS hLSe hLF hN6 hN5
            go_upto_region 5 with (fail)
            refine wp_region_lit ?_
            refine ls_ex (some 18) (.int .i64 k) rfl rfl (exec_move _ rfl (.int .i64 k) rfl) ?_
            go_frame
            refine ls_ex (some 19) (.pointer (some ⟨w.heap.size, 4, none⟩)) rfl rfl (exec_fieldAddr 28 _ 4 rfl _ (by kernel_rfl)) ?_
            go_frame
            refine ls_ex (some 20) (.slice (some ⟨g, 0, none⟩) L c) rfl rfl (exec_load_one 26 _ rfl w.heap.size 4 rfl (.slice (some ⟨g, 0, none⟩) L c) _ Try.underlying26 rfl (h1.at_ 4)) ?_
            go_frame
            refine ls_ex (some 21) (.int .i64 L) rfl rfl (exec_len _ 26 53 rfl ((some ⟨g, 0, none⟩)) L c rfl Try.underlying26) ?_
            go_frame
            refine ls_ex (some 22) (.bool true) rfl rfl (exec_lss _ _ _ _ rfl k L rfl rfl true (decide_eq_true (by omega))) ?_
            go_frame
            refine wpList_nil ?_
            go_upto_region 7 with (fail)
            refine wp_region_y (zs := []) (S := fun w' => Below w.heap.size w w' ∧ At w' w.heap.size (.cells #[.int .i64 p, .int .i64 n, .int .i64 m, .int .i64 k0, .slice (some ⟨g, 0, none⟩) L c] 28 (0, 0))) (S2 := fun w' => True) (by kernel_rfl) ?_
            change wpAnyY _ _ _ _ _ _ _ _ _ _ (World.drew _)
            generalize hwdz42 : World.drew _ = wdz42
            replace hB : Below w.heap.size w wdz42 := by rw [← hwdz42]; exact hB.drew
            replace h1 : At wdz42 w.heap.size (.cells #[.int .i64 p, .int .i64 n, .int .i64 m, .int .i64 k0, .slice (some ⟨g, 0, none⟩) L c] 28 (0, 0)) := by rw [← hwdz42]; exact h1
            replace h2 : At wdz42 Wz2.heap.size (.cells #[.int .i64 0, .int .i64 0, .int .i64 0, .int .i64 0, .slice none 0 0] 28 (0, 0)) := by rw [← hwdz42]; exact h2
            clear hwdz42
            refine y_yield 0 (some 26) (.pointer (some ⟨w.heap.size, 0, none⟩)) rfl (by kernel_rfl) (by kernel_rfl) (by kernel_rfl) (fun _ _ _ h => h) rfl rfl ⟨hB, h1⟩ (fun w' h' => exec_fieldAddr 28 _ 0 rfl _ (by kernel_rfl)) ?_
            go_frame
            refine y_yield 1 (some 27) (.int .i64 p) rfl (by kernel_rfl) (by kernel_rfl) (by kernel_rfl) (fun _ _ _ h => h) rfl rfl ⟨hB, h1⟩ (fun w' h' => exec_load_one 2 _ rfl w.heap.size 0 rfl (.int .i64 p) _ Try.underlying2 rfl (h'.2.at_ 0)) ?_
            go_frame
            refine y_yield 2 (some 28) (.pointer (some ⟨w.heap.size, 4, none⟩)) rfl (by kernel_rfl) (by kernel_rfl) (by kernel_rfl) (fun _ _ _ h => h) rfl rfl ⟨hB, h1⟩ (fun w' h' => exec_fieldAddr 28 _ 4 rfl _ (by kernel_rfl)) ?_
            go_frame
            refine y_yield 3 (some 29) (.slice (some ⟨g, 0, none⟩) L c) rfl (by kernel_rfl) (by kernel_rfl) (by kernel_rfl) (fun _ _ _ h => h) rfl rfl ⟨hB, h1⟩ (fun w' h' => exec_load_one 26 _ rfl w.heap.size 4 rfl (.slice (some ⟨g, 0, none⟩) L c) _ Try.underlying26 rfl (h'.2.at_ 4)) ?_
            go_frame
            refine y_yield 4 (some 30) (.int .i64 i) rfl (by kernel_rfl) (by kernel_rfl) (by kernel_rfl) (fun _ _ _ h => h) rfl rfl ⟨hB, h1⟩ (fun w' h' => exec_move _ rfl (.int .i64 i) rfl) ?_
            go_frame
            refine y_yield 5 (some 31) (.pointer (some ⟨g, i * 27, none⟩)) rfl (by kernel_rfl) (by kernel_rfl) (by kernel_rfl) (fun _ _ _ h => h) rfl rfl ⟨hB, h1⟩ (fun w' h' => exec_ix0 _ 53 _ _ rfl g L c i 27 rfl rfl Try.underlying26 (by kernel_rfl) (by omega)) ?_
            go_frame
            refine y_yield 6 (some 32) (.agg (u8s (q))) rfl (by kernel_rfl) (by kernel_rfl) (by kernel_rfl) (fun _ _ _ h => h) rfl rfl ⟨hB, h1⟩ (fun w' h' => exec_load_cells 53 _ rfl g (i * 27) rfl (q) _ 27 (Own.c27u (ho0.below h'.1) HCb.out HQ.out) Try.underlying53 rfl (by kernel_rfl) (HQb.out.len)) ?_
            go_frame
            refine y_yield 7 (some 33) (.pointer (some ⟨w.heap.size, 4, none⟩)) rfl (by kernel_rfl) (by kernel_rfl) (by kernel_rfl) (fun _ _ _ h => h) rfl rfl ⟨hB, h1⟩ (fun w' h' => exec_fieldAddr 28 _ 4 rfl _ (by kernel_rfl)) ?_
            go_frame
            refine y_yield 8 (some 34) (.slice (some ⟨g, 0, none⟩) L c) rfl (by kernel_rfl) (by kernel_rfl) (by kernel_rfl) (fun _ _ _ h => h) rfl rfl ⟨hB, h1⟩ (fun w' h' => exec_load_one 26 _ rfl w.heap.size 4 rfl (.slice (some ⟨g, 0, none⟩) L c) _ Try.underlying26 rfl (h'.2.at_ 4)) ?_
            go_frame
            refine y_yield 9 (some 35) (.int .i64 k) rfl (by kernel_rfl) (by kernel_rfl) (by kernel_rfl) (fun _ _ _ h => h) rfl rfl ⟨hB, h1⟩ (fun w' h' => exec_move _ rfl (.int .i64 k) rfl) ?_
            go_frame
            refine y_yield 10 (some 36) (.pointer (some ⟨g, k * 27, none⟩)) rfl (by kernel_rfl) (by kernel_rfl) (by kernel_rfl) (fun _ _ _ h => h) rfl rfl ⟨hB, h1⟩ (fun w' h' => exec_ix0 _ 53 _ _ rfl g L c k 27 rfl rfl Try.underlying26 (by kernel_rfl) (by omega)) ?_
            go_frame
            refine y_yield 11 (some 37) (.agg (u8s (r))) rfl (by kernel_rfl) (by kernel_rfl) (by kernel_rfl) (fun _ _ _ h => h) rfl rfl ⟨hB, h1⟩ (fun w' h' => exec_load_cells 53 _ rfl g (k * 27) rfl (r) _ 27 (Own.c27u (ho0.below h'.1) HCb.out HR.out) Try.underlying53 rfl (by kernel_rfl) (HRb.out.len)) ?_
            go_frame
            refine y_two 12 16 (by kernel_rfl) rfl rfl rfl rfl (fun K' hK' => ?_) (fun K' hK' => ?_)
            · have lz45 := hB.size
              have lz46 := h1.lt
              have lz47 := h2.lt
              refine wp_call3 (some 38) rfl 86 _ _ _ _ rfl (fun args w => by kernel_rfl) _ _ _ rfl rfl rfl _ (l03Join_c p q r _ hpp HGQ.out HGR.out) (fun e Wz43 h => ?_)
              obtain ⟨rfl, bz44⟩ := h
              replace hB := below_after hB bz44
              replace h1 := h1.after bz44
              replace h2 := h2.after bz44
              rw [HJ.out, unV_some]
              clear bz44
              refine ⟨_, rfl, ?_⟩
              refine hK' _ _ ⟨hB, h1⟩ (fun _ => trivial) ?_
              clear hK' K'
              go_frame
              refine y_yield 13 (some 25) (.tuple #[.agg (u8s (one)), .bool true]) rfl (by kernel_rfl) (by kernel_rfl) (by kernel_rfl) (fun _ _ _ h => h) rfl rfl ⟨hB, h1⟩ (fun w' h' => exec_move _ rfl (.tuple #[.agg (u8s (one)), .bool true]) rfl) ?_
              go_frame
              refine y_yield 14 (some 39) (.agg (u8s (one))) rfl (by kernel_rfl) (by kernel_rfl) (by kernel_rfl) (fun _ _ _ h => h) rfl rfl ⟨hB, h1⟩ (fun w' h' => exec_extract _ 0 rfl #[.agg (u8s (one)), .bool true] (by rfl) _ rfl) ?_
              go_frame
              refine y_yield 15 (some 40) (.bool true) rfl (by kernel_rfl) (by kernel_rfl) (by kernel_rfl) (fun _ _ _ h => h) rfl rfl ⟨hB, h1⟩ (fun w' h' => exec_extract _ 1 rfl #[.agg (u8s (one)), .bool true] (by rfl) _ rfl) ?_
              go_frame
              refine y_oper 16 (by kernel_rfl) rfl rfl (fun K' hK' => ?_)
              have lz48 := hB.size
              have lz49 := h1.lt
              have lz50 := h2.lt
              refine wp_new (some 6) rfl (alRb_impl_Product rfl) (fun Wz51 nnz52 => ?_)
              have bz53 := nnz52.below (Below.refl _ _) (Nat.le_refl _)
              replace hB := below_after hB bz53
              replace h1 := h1.after bz53
              replace h2 := h2.after bz53
              have hz54 : At Wz51 Wz43.heap.size (.cells (u8s (List.replicate 27 0)) 53 (0, 0)) := nnz52.at_
              refine hK' _ _ ⟨hB, h1⟩ (fun _ => trivial) ?_
              clear hK' K' nnz52 bz53
              go_frame
              refine y_oper 17 (by kernel_rfl) rfl rfl (fun K' hK' => ?_)
              refine wp_store_bytes 53 _ _ rfl rfl Wz43.heap.size rfl (one) rfl _ _ hz54 27 (by kernel_rfl) HOb.out.len (by simp) (fun Wz55 pz56 => ?_)
              replace hB := pz56.below hB (by omega)
              replace h1 := pz56.other h1 (by omega)
              replace h2 := pz56.other h2 (by omega)
              replace hz54 : At Wz55 Wz43.heap.size (.cells (u8s (one)) 53 (0, 0)) := pz56.at_
              refine hK' _ _ ⟨hB, h1⟩ (fun _ => trivial) ?_
              clear hK' K' pz56
              refine y_oper 18 (by kernel_rfl) rfl rfl (fun K' hK' => ?_)
              refine wp_exec (some 7) rfl (.bool true) (exec_assign _ rfl (.bool true) rfl) ?_
              refine hK' _ _ ⟨hB, h1⟩ (fun _ => trivial) ?_
              clear hK' K'
              go_frame
              refine y_done (by kernel_rfl) ?_ _
              go_upto_region 8 with (fail)
              refine wp_region_lit ?_
              refine ls_ex (some 41) (.bool true) rfl rfl (exec_move _ rfl (.bool true) rfl) ?_
              go_frame
              refine ls_ex (some 42) (.bool false) rfl rfl (exec_not _ _ rfl true rfl) ?_
              go_frame
              refine wpList_nil ?_
              go_upto_region 9 with (fail)
              refine wp_region_lit ?_
              refine ls_op rfl (fun K' hK' => ?_)
              have lz60 := hB.size
              have lz61 := h1.lt
              have lz62 := h2.lt
              have lz63 := hz54.lt
              refine wp_new (some 43) rfl (exec_bs0 rfl) (fun Wz57 nnz58 => ?_)
              have bz59 := nnz58.below (Below.refl _ _) (Nat.le_refl _)
              replace hB := below_after hB bz59
              replace h1 := h1.after bz59
              replace h2 := h2.after bz59
              replace hz54 := hz54.after bz59
              have ho : Own Wz57 Wz55.heap.size (.slice (some ⟨Wz55.heap.size, 0, none⟩) 0 0) [] := own_bs0 nnz58
              have hloz64 := nnz58.at_.lt
              refine hK' _ _ ?_
              clear hK' K' nnz58 bz59
              go_frame
              refine ls_ex (some 44) (.pointer (some ⟨w.heap.size, 4, none⟩)) rfl rfl (exec_fieldAddr 28 _ 4 rfl _ (by kernel_rfl)) ?_
              go_frame
              refine ls_ex (some 45) (.slice (some ⟨g, 0, none⟩) L c) rfl rfl (exec_load_one 26 _ rfl w.heap.size 4 rfl (.slice (some ⟨g, 0, none⟩) L c) _ Try.underlying26 rfl (h1.at_ 4)) ?_
              go_frame
              refine ls_ex (some 46) (.int .i64 k) rfl rfl (exec_move _ rfl (.int .i64 k) rfl) ?_
              go_frame
              refine ls_ex (some 47) (.slice (some ⟨g, 0, none⟩) k c) rfl rfl (exec_sl_hi _ _ rfl g L c k (by omega) rfl rfl) ?_
              go_frame
              refine ls_op rfl (fun K' hK' => ?_)
              have lz68 := hB.size
              have lz69 := h1.lt
              have lz70 := h2.lt
              have lz71 := hz54.lt
              refine wp_append_rdN (some 48) rfl _ _ rfl (.slice (some ⟨Wz55.heap.size, 0, none⟩) 0 0) ([]) (qs.take k) (k) HTk.out rfl ho (some ⟨g, 0, none⟩) (c) rfl (((ho0.below hB).rd' HCb.out).take9 k) (fun h => by cases h) (by rw [HTk.out]; simp; omega) (by omega) (fun v8 Wz65 noz67 grz66 => ?_)
              rw [List.nil_append] at noz67
              have hsgz72 := grz66.size
              obtain ⟨A8, c8, rfl⟩ := Own.rdN2 noz67 (n := k) HTk.out
              replace hB := below_grown hB grz66 ho (by omega)
              replace h1 := h1.grown grz66 (ho.off h1 (by decide))
              replace h2 := h2.grown grz66 (ho.off h2 (by decide))
              replace hz54 := hz54.grown grz66 (ho.ne_lt (by omega))
              replace ho := noz67
              refine hK' _ _ ?_
              clear hK' K' grz66
              go_frame
              refine ls_ex (some 8) (.slice A8 k c8) rfl rfl (exec_assign _ rfl (.slice A8 k c8) rfl) ?_
              go_frame
              refine wpList_nil ?_
              go_upto_region 10 with (fail)
              refine wp_region_lit ?_
              refine ls_ex (some 49) (.slice A8 k c8) rfl rfl (exec_move _ rfl (.slice A8 k c8) rfl) ?_
              go_frame
              refine ls_ex (some 50) (.pointer (some ⟨w.heap.size, 4, none⟩)) rfl rfl (exec_fieldAddr 28 _ 4 rfl _ (by kernel_rfl)) ?_
              go_frame
              refine ls_ex (some 51) (.slice (some ⟨g, 0, none⟩) L c) rfl rfl (exec_load_one 26 _ rfl w.heap.size 4 rfl (.slice (some ⟨g, 0, none⟩) L c) _ Try.underlying26 rfl (h1.at_ 4)) ?_
              go_frame
              refine ls_ex (some 52) (.int .i64 k) rfl rfl (exec_move _ rfl (.int .i64 k) rfl) ?_
              go_frame
              refine ls_ex (some 53) (.int .i64 ((k + 1 : Nat) : Int)) rfl rfl (exec_add _ _ _ _ rfl (k : Nat) 1 ((k + 1 : Nat) : Int) rfl rfl (by rw [IntWalk.i64_in _ (by omega)]; omega)) ?_
              go_frame
              refine ls_ex (some 54) (.slice (some ⟨g, OE, none⟩) (L - (k + 1)) (c - (k + 1))) rfl rfl (exec_sl_loE _ _ rfl g L c (k + 1) (by omega) rfl rfl HOE.out) ?_
              go_frame
              refine ls_op rfl (fun K' hK' => ?_)
              have lz76 := hB.size
              have lz77 := h1.lt
              have lz78 := h2.lt
              have lz79 := hz54.lt
              refine wp_append_rdN (some 55) rfl _ _ rfl (.slice A8 k c8) (qs.take k) (qs.drop (k + 1)) (L - (k + 1)) HDl.out rfl ho (some ⟨g, OE, none⟩) (c - (k + 1)) rfl (((ho0.below hB).rd' HCb.out).dropE HOE2.out) (fun h => by cases h) (by rw [HDl.out, HTk.out]; omega) (by omega) (fun v7 Wz73 noz75 grz74 => ?_)
              rw [HL0.out] at noz75
              have hsgz80 := grz74.size
              obtain ⟨A7, c7, rfl⟩ := Own.rdN2 noz75 (n := N7) HN7.out
              replace hB := below_grown hB grz74 ho (by omega)
              replace h1 := h1.grown grz74 (ho.off h1 (by decide))
              replace h2 := h2.grown grz74 (ho.off h2 (by decide))
              replace hz54 := hz54.grown grz74 (ho.ne_lt (by omega))
              replace ho := noz75
              refine hK' _ _ ?_
              clear hK' K' grz74
              go_frame
              refine ls_ex (some 8) (.slice A7 N7 c7) rfl rfl (exec_assign _ rfl (.slice A7 N7 c7) rfl) ?_
              go_frame
              refine wpList_nil ?_
              obtain ⟨g8, rfl, hg8⟩ := ho.blk (by rw [HN7.out]; omega)
              go_upto_region 11 with (fail)
              refine wp_region_lit ?_
              refine ls_ex (some 56) (.slice (some ⟨g8, 0, none⟩) N7 c7) rfl rfl (exec_move _ rfl (.slice (some ⟨g8, 0, none⟩) N7 c7) rfl) ?_
              go_frame
              refine ls_ex (some 57) (.int .i64 i) rfl rfl (exec_move _ rfl (.int .i64 i) rfl) ?_
              go_frame
              refine ls_ex (some 58) (.agg (u8s (one))) rfl rfl (exec_load_all 53 _ rfl Wz43.heap.size rfl _ _ _ hz54 Try.underlying53 rfl 27 (by kernel_rfl) ((u8s_size _).trans HOb.out.len)) ?_
              go_frame
              refine ls_ex (some 59) (.pointer (some ⟨g8, i * 27, none⟩)) rfl rfl (exec_ix0 _ 53 _ _ rfl g8 N7 c7 i 27 rfl rfl Try.underlying26 (by kernel_rfl) (by omega)) ?_
              go_frame
              refine ls_op rfl (fun K' hK' => ?_)
              clear hz54
              have ne0 : w.heap.size ≠ g8 := fun e => ho.off h1 (by decide) (by rw [e]; rfl)
              have ne1 : Wz2.heap.size ≠ g8 := fun e => ho.off h2 (by decide) (by rw [e]; rfl)
              have lz84 := hB.size
              have lz85 := h1.lt
              have lz86 := h2.lt
              refine wp_store_own 53 _ _ rfl rfl g8 i rfl (one) rfl ho HL27.out (by kernel_rfl) HLi.out HOb.out.len (fun Wz81 hoz83 pz82 _ => ?_)
              replace hB := pz82.below hB (by omega)
              replace h1 := pz82.other h1 (by omega)
              replace h2 := pz82.other h2 (by omega)
              replace ho := hoz83
              rw [HLS.out] at ho
              refine hK' _ _ ?_
              clear hK' K' pz82 hoz83
              refine wpList_nil ?_
              go_upto_region 12 with (fail)
              refine wp_region_lit ?_
              refine ls_ex (some 60) (.agg #[.int .i64 p, .int .i64 n, .int .i64 m, .int .i64 k0, .slice (some ⟨g, 0, none⟩) L c]) rfl rfl (exec_load_all 28 _ rfl w.heap.size rfl _ _ _ h1 Try.underlying28 rfl 5 (by kernel_rfl) rfl) ?_
              go_frame
              refine ls_ex (some 61) (.slice (some ⟨g8, 0, none⟩) N7 c7) rfl rfl (exec_move _ rfl (.slice (some ⟨g8, 0, none⟩) N7 c7) rfl) ?_
              go_frame
              refine ls_op rfl (fun K' hK' => ?_)
              have lz89 := hB.size
              have lz90 := h1.lt
              have lz91 := h2.lt
              have lo6 := hB.size
              refine wp_call2 (some 62) rfl 87 _ _ _ rfl (fun args w => by kernel_rfl) _ _ rfl rfl _ (l03ToldN_c p n m k0 _ _ _ _ _ LS N7 HN7s.out _ (ho.rd' HLb.out) (by omega)) (fun e Wz87 h => ?_)
              obtain ⟨v6, rfl, ho6, bz88⟩ := h
              replace hB := below_after hB bz88
              replace h1 := h1.after bz88
              replace h2 := h2.after bz88
              replace ho := ho.below bz88
              rw [HLF.out] at ho6
              obtain ⟨A6, c6, rfl⟩ := Own.rdN2 ho6 (n := N6) HN6.out
              clear bz88
              refine ⟨_, rfl, ?_⟩
              refine hK' _ _ ?_
              clear hK' K'
              go_frame
              refine ls_op rfl (fun K' hK' => ?_)
              have lz94 := hB.size
              have lz95 := h1.lt
              have lz96 := h2.lt
              have lo5 := hB.size
              refine wp_call1 (some 63) rfl 54 _ _ rfl (fun args w => by kernel_rfl) _ rfl _ (l03AllNormalN_c p n m k0 A6 c6 LF N6 HN6.out _ (ho6.rd' HFb.out) (by omega) hpp HFl.out) (fun e Wz92 h => ?_)
              obtain ⟨v5, rfl, ho5, bz93⟩ := h
              replace hB := below_after hB bz93
              replace h1 := h1.after bz93
              replace h2 := h2.after bz93
              replace ho6 := ho6.below bz93
              rw [HNX.out] at ho5
              obtain ⟨A5, c5, rfl⟩ := Own.rdN2 ho5 (n := N5) HN5.out
              clear bz93
              refine ⟨_, rfl, ?_⟩
              refine hK' _ _ ?_
              clear hK' K'
              go_frame
              refine ls_op rfl (fun K' hK' => ?_)
              refine wp_store_all 28 _ _ rfl rfl Wz2.heap.size rfl #[.int .i64 p, .int .i64 n, .int .i64 m, .int .i64 k0, .slice A5 N5 c5] rfl _ _ h2 5 (by kernel_rfl) rfl rfl (one5 _ _ _ _ _ _ _) (fun Wz97 pz98 => ?_)
              replace hB := pz98.below hB (by omega)
              replace h1 := pz98.other h1 (by omega)
              replace ho5 := ho5.put pz98 (ho5.off h2 (by decide))
              replace h2 : At Wz97 Wz2.heap.size (.cells #[.int .i64 p, .int .i64 n, .int .i64 m, .int .i64 k0, .slice A5 N5 c5] 28 (0, 0)) := pz98.at_
              refine hK' _ _ ?_
              clear hK' K' pz98
              refine ls_ex (some 3) (.bool true) rfl rfl (exec_assign _ rfl (.bool true) rfl) ?_
              go_frame
              refine wpList_nil ?_
              go_wp2_with fail
              refine bodyPost_ret (results_at2 rfl _ _ Wz2.heap.size _ _ _ rfl _ rfl h2 Try.underlying28 rfl 5 (by kernel_rfl) rfl) rfl ?_
              exact ⟨_, rfl, by rw [HRS.out]; exact ho5.mono (by omega), hB⟩
            · have lz99 := hB.size
              have lz100 := h1.lt
              have lz101 := h2.lt
              refine wp_new (some 6) rfl (alRb_impl_Product rfl) (fun Wz102 nnz103 => ?_)
              have bz104 := nnz103.below (Below.refl _ _) (Nat.le_refl _)
              replace hB := below_after hB bz104
              replace h1 := h1.after bz104
              replace h2 := h2.after bz104
              have hz105 : At Wz102 wdz42.heap.size (.cells (u8s (List.replicate 27 0)) 53 (0, 0)) := nnz103.at_
              refine hK' _ _ ⟨hB, h1⟩ (fun _ => trivial) ?_
              clear hK' K' nnz103 bz104
              go_frame
              refine y_oper 12 (by kernel_rfl) rfl rfl (fun K' hK' => ?_)
              have lz108 := hB.size
              have lz109 := h1.lt
              have lz110 := h2.lt
              have lz111 := hz105.lt
              refine wp_call3 (some 38) rfl 86 _ _ _ _ rfl (fun args w => by kernel_rfl) _ _ _ rfl rfl rfl _ (l03Join_c p q r _ hpp HGQ.out HGR.out) (fun e Wz106 h => ?_)
              obtain ⟨rfl, bz107⟩ := h
              replace hB := below_after hB bz107
              replace h1 := h1.after bz107
              replace h2 := h2.after bz107
              replace hz105 := hz105.after bz107
              rw [HJ.out, unV_some]
              clear bz107
              refine ⟨_, rfl, ?_⟩
              refine hK' _ _ ⟨hB, h1⟩ (fun _ => trivial) ?_
              clear hK' K'
              go_frame
              refine y_yield 13 (some 25) (.tuple #[.agg (u8s (one)), .bool true]) rfl (by kernel_rfl) (by kernel_rfl) (by kernel_rfl) (fun _ _ _ h => h) rfl rfl ⟨hB, h1⟩ (fun w' h' => exec_move _ rfl (.tuple #[.agg (u8s (one)), .bool true]) rfl) ?_
              go_frame
              refine y_yield 14 (some 39) (.agg (u8s (one))) rfl (by kernel_rfl) (by kernel_rfl) (by kernel_rfl) (fun _ _ _ h => h) rfl rfl ⟨hB, h1⟩ (fun w' h' => exec_extract _ 0 rfl #[.agg (u8s (one)), .bool true] (by rfl) _ rfl) ?_
              go_frame
              refine y_yield 15 (some 40) (.bool true) rfl (by kernel_rfl) (by kernel_rfl) (by kernel_rfl) (fun _ _ _ h => h) rfl rfl ⟨hB, h1⟩ (fun w' h' => exec_extract _ 1 rfl #[.agg (u8s (one)), .bool true] (by rfl) _ rfl) ?_
              go_frame
              refine y_oper 17 (by kernel_rfl) rfl rfl (fun K' hK' => ?_)
              refine wp_store_bytes 53 _ _ rfl rfl wdz42.heap.size rfl (one) rfl _ _ hz105 27 (by kernel_rfl) HOb.out.len (by simp) (fun Wz112 pz113 => ?_)
              replace hB := pz113.below hB (by omega)
              replace h1 := pz113.other h1 (by omega)
              replace h2 := pz113.other h2 (by omega)
              replace hz105 : At Wz112 wdz42.heap.size (.cells (u8s (one)) 53 (0, 0)) := pz113.at_
              refine hK' _ _ ⟨hB, h1⟩ (fun _ => trivial) ?_
              clear hK' K' pz113
              refine y_oper 18 (by kernel_rfl) rfl rfl (fun K' hK' => ?_)
              refine wp_exec (some 7) rfl (.bool true) (exec_assign _ rfl (.bool true) rfl) ?_
              refine hK' _ _ ⟨hB, h1⟩ (fun _ => trivial) ?_
              clear hK' K'
              go_frame
              refine y_done (by kernel_rfl) ?_ _
              go_upto_region 8 with (fail)
              refine wp_region_lit ?_
              refine ls_ex (some 41) (.bool true) rfl rfl (exec_move _ rfl (.bool true) rfl) ?_
              go_frame
              refine ls_ex (some 42) (.bool false) rfl rfl (exec_not _ _ rfl true rfl) ?_
              go_frame
              refine wpList_nil ?_
              go_upto_region 9 with (fail)
              refine wp_region_lit ?_
              refine ls_op rfl (fun K' hK' => ?_)
              have lz117 := hB.size
              have lz118 := h1.lt
              have lz119 := h2.lt
              have lz120 := hz105.lt
              refine wp_new (some 43) rfl (exec_bs0 rfl) (fun Wz114 nnz115 => ?_)
              have bz116 := nnz115.below (Below.refl _ _) (Nat.le_refl _)
              replace hB := below_after hB bz116
              replace h1 := h1.after bz116
              replace h2 := h2.after bz116
              replace hz105 := hz105.after bz116
              have ho : Own Wz114 Wz112.heap.size (.slice (some ⟨Wz112.heap.size, 0, none⟩) 0 0) [] := own_bs0 nnz115
              have hloz121 := nnz115.at_.lt
              refine hK' _ _ ?_
              clear hK' K' nnz115 bz116
              go_frame
              refine ls_ex (some 44) (.pointer (some ⟨w.heap.size, 4, none⟩)) rfl rfl (exec_fieldAddr 28 _ 4 rfl _ (by kernel_rfl)) ?_
              go_frame
              refine ls_ex (some 45) (.slice (some ⟨g, 0, none⟩) L c) rfl rfl (exec_load_one 26 _ rfl w.heap.size 4 rfl (.slice (some ⟨g, 0, none⟩) L c) _ Try.underlying26 rfl (h1.at_ 4)) ?_
              go_frame
              refine ls_ex (some 46) (.int .i64 k) rfl rfl (exec_move _ rfl (.int .i64 k) rfl) ?_
              go_frame
              refine ls_ex (some 47) (.slice (some ⟨g, 0, none⟩) k c) rfl rfl (exec_sl_hi _ _ rfl g L c k (by omega) rfl rfl) ?_
              go_frame
              refine ls_op rfl (fun K' hK' => ?_)
              have lz125 := hB.size
              have lz126 := h1.lt
              have lz127 := h2.lt
              have lz128 := hz105.lt
              refine wp_append_rdN (some 48) rfl _ _ rfl (.slice (some ⟨Wz112.heap.size, 0, none⟩) 0 0) ([]) (qs.take k) (k) HTk.out rfl ho (some ⟨g, 0, none⟩) (c) rfl (((ho0.below hB).rd' HCb.out).take9 k) (fun h => by cases h) (by rw [HTk.out]; simp; omega) (by omega) (fun v8 Wz122 noz124 grz123 => ?_)
              rw [List.nil_append] at noz124
              have hsgz129 := grz123.size
              obtain ⟨A8, c8, rfl⟩ := Own.rdN2 noz124 (n := k) HTk.out
              replace hB := below_grown hB grz123 ho (by omega)
              replace h1 := h1.grown grz123 (ho.off h1 (by decide))
              replace h2 := h2.grown grz123 (ho.off h2 (by decide))
              replace hz105 := hz105.grown grz123 (ho.ne_lt (by omega))
              replace ho := noz124
              refine hK' _ _ ?_
              clear hK' K' grz123
              go_frame
              refine ls_ex (some 8) (.slice A8 k c8) rfl rfl (exec_assign _ rfl (.slice A8 k c8) rfl) ?_
              go_frame
              refine wpList_nil ?_
              go_upto_region 10 with (fail)
              refine wp_region_lit ?_
              refine ls_ex (some 49) (.slice A8 k c8) rfl rfl (exec_move _ rfl (.slice A8 k c8) rfl) ?_
              go_frame
              refine ls_ex (some 50) (.pointer (some ⟨w.heap.size, 4, none⟩)) rfl rfl (exec_fieldAddr 28 _ 4 rfl _ (by kernel_rfl)) ?_
              go_frame
              refine ls_ex (some 51) (.slice (some ⟨g, 0, none⟩) L c) rfl rfl (exec_load_one 26 _ rfl w.heap.size 4 rfl (.slice (some ⟨g, 0, none⟩) L c) _ Try.underlying26 rfl (h1.at_ 4)) ?_
              go_frame
              refine ls_ex (some 52) (.int .i64 k) rfl rfl (exec_move _ rfl (.int .i64 k) rfl) ?_
              go_frame
              refine ls_ex (some 53) (.int .i64 ((k + 1 : Nat) : Int)) rfl rfl (exec_add _ _ _ _ rfl (k : Nat) 1 ((k + 1 : Nat) : Int) rfl rfl (by rw [IntWalk.i64_in _ (by omega)]; omega)) ?_
              go_frame
              refine ls_ex (some 54) (.slice (some ⟨g, OE, none⟩) (L - (k + 1)) (c - (k + 1))) rfl rfl (exec_sl_loE _ _ rfl g L c (k + 1) (by omega) rfl rfl HOE.out) ?_
              go_frame
              refine ls_op rfl (fun K' hK' => ?_)
              have lz133 := hB.size
              have lz134 := h1.lt
              have lz135 := h2.lt
              have lz136 := hz105.lt
              refine wp_append_rdN (some 55) rfl _ _ rfl (.slice A8 k c8) (qs.take k) (qs.drop (k + 1)) (L - (k + 1)) HDl.out rfl ho (some ⟨g, OE, none⟩) (c - (k + 1)) rfl (((ho0.below hB).rd' HCb.out).dropE HOE2.out) (fun h => by cases h) (by rw [HDl.out, HTk.out]; omega) (by omega) (fun v7 Wz130 noz132 grz131 => ?_)
              rw [HL0.out] at noz132
              have hsgz137 := grz131.size
              obtain ⟨A7, c7, rfl⟩ := Own.rdN2 noz132 (n := N7) HN7.out
              replace hB := below_grown hB grz131 ho (by omega)
              replace h1 := h1.grown grz131 (ho.off h1 (by decide))
              replace h2 := h2.grown grz131 (ho.off h2 (by decide))
              replace hz105 := hz105.grown grz131 (ho.ne_lt (by omega))
              replace ho := noz132
              refine hK' _ _ ?_
              clear hK' K' grz131
              go_frame
              refine ls_ex (some 8) (.slice A7 N7 c7) rfl rfl (exec_assign _ rfl (.slice A7 N7 c7) rfl) ?_
              go_frame
              refine wpList_nil ?_
              obtain ⟨g8, rfl, hg8⟩ := ho.blk (by rw [HN7.out]; omega)
              go_upto_region 11 with (fail)
              refine wp_region_lit ?_
              refine ls_ex (some 56) (.slice (some ⟨g8, 0, none⟩) N7 c7) rfl rfl (exec_move _ rfl (.slice (some ⟨g8, 0, none⟩) N7 c7) rfl) ?_
              go_frame
              refine ls_ex (some 57) (.int .i64 i) rfl rfl (exec_move _ rfl (.int .i64 i) rfl) ?_
              go_frame
              refine ls_ex (some 58) (.agg (u8s (one))) rfl rfl (exec_load_all 53 _ rfl wdz42.heap.size rfl _ _ _ hz105 Try.underlying53 rfl 27 (by kernel_rfl) ((u8s_size _).trans HOb.out.len)) ?_
              go_frame
              refine ls_ex (some 59) (.pointer (some ⟨g8, i * 27, none⟩)) rfl rfl (exec_ix0 _ 53 _ _ rfl g8 N7 c7 i 27 rfl rfl Try.underlying26 (by kernel_rfl) (by omega)) ?_
              go_frame
              refine ls_op rfl (fun K' hK' => ?_)
              clear hz105
              have ne0 : w.heap.size ≠ g8 := fun e => ho.off h1 (by decide) (by rw [e]; rfl)
              have ne1 : Wz2.heap.size ≠ g8 := fun e => ho.off h2 (by decide) (by rw [e]; rfl)
              have lz141 := hB.size
              have lz142 := h1.lt
              have lz143 := h2.lt
              refine wp_store_own 53 _ _ rfl rfl g8 i rfl (one) rfl ho HL27.out (by kernel_rfl) HLi.out HOb.out.len (fun Wz138 hoz140 pz139 _ => ?_)
              replace hB := pz139.below hB (by omega)
              replace h1 := pz139.other h1 (by omega)
              replace h2 := pz139.other h2 (by omega)
              replace ho := hoz140
              rw [HLS.out] at ho
              refine hK' _ _ ?_
              clear hK' K' pz139 hoz140
              refine wpList_nil ?_
              go_upto_region 12 with (fail)
              refine wp_region_lit ?_
              refine ls_ex (some 60) (.agg #[.int .i64 p, .int .i64 n, .int .i64 m, .int .i64 k0, .slice (some ⟨g, 0, none⟩) L c]) rfl rfl (exec_load_all 28 _ rfl w.heap.size rfl _ _ _ h1 Try.underlying28 rfl 5 (by kernel_rfl) rfl) ?_
              go_frame
              refine ls_ex (some 61) (.slice (some ⟨g8, 0, none⟩) N7 c7) rfl rfl (exec_move _ rfl (.slice (some ⟨g8, 0, none⟩) N7 c7) rfl) ?_
              go_frame
              refine ls_op rfl (fun K' hK' => ?_)
              have lz146 := hB.size
              have lz147 := h1.lt
              have lz148 := h2.lt
              have lo6 := hB.size
              refine wp_call2 (some 62) rfl 87 _ _ _ rfl (fun args w => by kernel_rfl) _ _ rfl rfl _ (l03ToldN_c p n m k0 _ _ _ _ _ LS N7 HN7s.out _ (ho.rd' HLb.out) (by omega)) (fun e Wz144 h => ?_)
              obtain ⟨v6, rfl, ho6, bz145⟩ := h
              replace hB := below_after hB bz145
              replace h1 := h1.after bz145
              replace h2 := h2.after bz145
              replace ho := ho.below bz145
              rw [HLF.out] at ho6
              obtain ⟨A6, c6, rfl⟩ := Own.rdN2 ho6 (n := N6) HN6.out
              clear bz145
              refine ⟨_, rfl, ?_⟩
              refine hK' _ _ ?_
              clear hK' K'
              go_frame
              refine ls_op rfl (fun K' hK' => ?_)
              have lz151 := hB.size
              have lz152 := h1.lt
              have lz153 := h2.lt
              have lo5 := hB.size
              refine wp_call1 (some 63) rfl 54 _ _ rfl (fun args w => by kernel_rfl) _ rfl _ (l03AllNormalN_c p n m k0 A6 c6 LF N6 HN6.out _ (ho6.rd' HFb.out) (by omega) hpp HFl.out) (fun e Wz149 h => ?_)
              obtain ⟨v5, rfl, ho5, bz150⟩ := h
              replace hB := below_after hB bz150
              replace h1 := h1.after bz150
              replace h2 := h2.after bz150
              replace ho6 := ho6.below bz150
              rw [HNX.out] at ho5
              obtain ⟨A5, c5, rfl⟩ := Own.rdN2 ho5 (n := N5) HN5.out
              clear bz150
              refine ⟨_, rfl, ?_⟩
              refine hK' _ _ ?_
              clear hK' K'
              go_frame
              refine ls_op rfl (fun K' hK' => ?_)
              refine wp_store_all 28 _ _ rfl rfl Wz2.heap.size rfl #[.int .i64 p, .int .i64 n, .int .i64 m, .int .i64 k0, .slice A5 N5 c5] rfl _ _ h2 5 (by kernel_rfl) rfl rfl (one5 _ _ _ _ _ _ _) (fun Wz154 pz155 => ?_)
              replace hB := pz155.below hB (by omega)
              replace h1 := pz155.other h1 (by omega)
              replace ho5 := ho5.put pz155 (ho5.off h2 (by decide))
              replace h2 : At Wz154 Wz2.heap.size (.cells #[.int .i64 p, .int .i64 n, .int .i64 m, .int .i64 k0, .slice A5 N5 c5] 28 (0, 0)) := pz155.at_
              refine hK' _ _ ?_
              clear hK' K' pz155
              refine ls_ex (some 3) (.bool true) rfl rfl (exec_assign _ rfl (.bool true) rfl) ?_
              go_frame
              refine wpList_nil ?_
              go_wp2_with fail
              refine bodyPost_ret (results_at2 rfl _ _ Wz2.heap.size _ _ _ rfl _ rfl h2 Try.underlying28 rfl 5 (by kernel_rfl) rfl) rfl ?_
              exact ⟨_, rfl, by rw [HRS.out]; exact ho5.mono (by omega), hB⟩
        · have HNn : Hid (unI (reF p) qs (L - (i + 1)) = unN (reF p) qs) := Lib.hid (by have h9 := HK.out; rw [show L - k = 0 by omega] at h9; exact h9)
          go_upto_region 5 with (fail)
          refine wp_region_lit ?_
          refine ls_ex (some 18) (.int .i64 k) rfl rfl (exec_move _ rfl (.int .i64 k) rfl) ?_
          go_frame
          refine ls_ex (some 19) (.pointer (some ⟨w.heap.size, 4, none⟩)) rfl rfl (exec_fieldAddr 28 _ 4 rfl _ (by kernel_rfl)) ?_
          go_frame
          refine ls_ex (some 20) (.slice (some ⟨g, 0, none⟩) L c) rfl rfl (exec_load_one 26 _ rfl w.heap.size 4 rfl (.slice (some ⟨g, 0, none⟩) L c) _ Try.underlying26 rfl (h1.at_ 4)) ?_
          go_frame
          refine ls_ex (some 21) (.int .i64 L) rfl rfl (exec_len _ 26 53 rfl ((some ⟨g, 0, none⟩)) L c rfl Try.underlying26) ?_
          go_frame
          refine ls_ex (some 22) (.bool false) rfl rfl (exec_lss _ _ _ _ rfl k L rfl rfl false (decide_eq_false (by omega))) ?_
          go_frame
          refine wpList_nil ?_
          go_upto_region 3 with (fail)
          refine wp_region_lit ?_
          refine ls_ex (some 14) (.int .i64 i) rfl rfl (exec_move _ rfl (.int .i64 i) rfl) ?_
          go_frame
          refine ls_ex (some 15) (.int .i64 (i + 1)) rfl rfl (exec_add _ _ _ _ rfl i 1 (i + 1) rfl rfl (IntWalk.i64_in _ (by omega))) ?_
          go_frame
          refine ls_ex (some 4) (.int .i64 (i + 1)) rfl rfl (exec_assign _ rfl (.int .i64 (i + 1)) rfl) ?_
          go_frame
          refine wpList_nil ?_
          go_wp2_with fail
          go_roundw
          case rel => exact ⟨i + 1, by omega, by go_num, HNn, hB, h1, h2⟩
          case measure => simp [intOf]; omega
    · have h9 := HN.out
      rw [show L - i = 0 by omega] at h9
      exact absurd (h9.trans HN0.out) (by simp [unI])
set_option maxHeartbeats 12800000 in
theorem l03Reduce_c (p n m k0 : Int) (g0 c : Nat) (qs : List (List Nat)) (w : World) (hR : Rd w (some ⟨g0, 0, none⟩) qs) (hx : schemeB p n m k0 qs = true) :
    Calls Try.prog 24 #[.agg #[.int .i64 p, .int .i64 n, .int .i64 m, .int .i64 k0, .slice (some ⟨g0, 0, none⟩) qs.length c]] w (fun e w' => ∃ v, e = .returned (.agg #[.int .i64 p, .int .i64 n, .int .i64 m, .int .i64 k0, v]) ∧ Own w' w.heap.size v (unA (reF p) qs.length (qs.map (normQ p))) ∧ Below w.heap.size w w') := by
  have hB := Below.refl w.heap.size w
  have hpp := (sizesB_parts (schemeB_sizes hx)).1
  have hl30 := schemeB_len hx
  have HLd := Lib.hid (scheme_lead hR.good hx)
  have HGm := Lib.hid (scheme_gr hpp hR.good hx)
  obtain ⟨L9, hL9⟩ : ∃ z9, (qs.map (normQ p)).length = z9 := ⟨_, rfl⟩
  have hL9b : L9 ≤ qs.length := by rw [← hL9, List.length_map]; exact Nat.le_refl _
  have HL9 := Lib.hid hL9
  clear hL9 hx
  go_enter Try.func24, Try.ntmps24
  go_upto_region 0 with (fail)
  refine wp_region_lit ?_
  refine ls_op rfl (fun K' hK' => ?_)
  have lz1 := hB.size
  refine wp_new (some 1) rfl (exec_box 28 _ rfl (#[.int .i64 p, .int .i64 n, .int .i64 m, .int .i64 k0, .slice (some ⟨g0, 0, none⟩) qs.length c]) rfl) (fun Wz2 nnz3 => ?_)
  have bz4 := nnz3.below (Below.refl _ _) (Nat.le_refl _)
  replace hB := below_after hB bz4
  have hz5 : At Wz2 w.heap.size (.cells #[.int .i64 p, .int .i64 n, .int .i64 m, .int .i64 k0, .slice (some ⟨g0, 0, none⟩) qs.length c] 28 (0, 0)) := nnz3.at_
  refine hK' _ _ ?_
  clear hK' K' nnz3 bz4
  go_frame
  refine ls_op rfl (fun K' hK' => ?_)
  have lz6 := hB.size
  have lz7 := hz5.lt
  refine wp_new (some 2) rfl (alRb_impl_Scheme rfl) (fun Wz8 nnz9 => ?_)
  have bz10 := nnz9.below (Below.refl _ _) (Nat.le_refl _)
  replace hB := below_after hB bz10
  replace hz5 := hz5.after bz10
  have hz11 : At Wz8 Wz2.heap.size (.cells #[.int .i64 0, .int .i64 0, .int .i64 0, .int .i64 0, .slice none 0 0] 28 (0, 0)) := nnz9.at_
  refine hK' _ _ ?_
  clear hK' K' nnz9 bz10
  go_frame
  refine wpList_nil ?_
  go_upto_region 1 with (fail)
  refine wp_region_lit ?_
  refine ls_ex (some 7) (.agg #[.int .i64 p, .int .i64 n, .int .i64 m, .int .i64 k0, .slice (some ⟨g0, 0, none⟩) qs.length c]) rfl rfl (exec_load_all 28 _ rfl w.heap.size rfl _ _ _ hz5 Try.underlying28 rfl 5 (by kernel_rfl) rfl) ?_
  go_frame
  refine ls_op rfl (fun K' hK' => ?_)
  have lz14 := hB.size
  have lz15 := hz5.lt
  have lz16 := hz11.lt
  have lo9 := hB.size
  refine wp_call1 (some 8) rfl 54 _ _ rfl (fun args w => by kernel_rfl) _ rfl _ (l03AllNormal_c p n m k0 _ c qs _ (hR.keep hB) (by omega) hpp HLd.out) (fun e Wz12 h => ?_)
  obtain ⟨v9, rfl, ho, bz13⟩ := h
  replace hB := below_after hB bz13
  replace hz5 := hz5.after bz13
  replace hz11 := hz11.after bz13
  obtain ⟨A9, c9, rfl⟩ := Own.rdN2 ho (n := L9) HL9.out
  clear bz13
  refine ⟨_, rfl, ?_⟩
  refine hK' _ _ ?_
  clear hK' K'
  go_frame
  refine ls_op rfl (fun K' hK' => ?_)
  have lz17 := hB.size
  have lz18 := hz5.lt
  have lz19 := hz11.lt
  have naz24 := ho.away_new
  refine wp_new (some 3) rfl (alRb_impl_Scheme rfl) (fun Wz20 nnz21 => ?_)
  have bz22 := nnz21.below (Below.refl _ _) (Nat.le_refl _)
  replace hB := below_after hB bz22
  replace hz5 := hz5.after bz22
  replace hz11 := hz11.after bz22
  replace ho := ho.below bz22
  have hz23 : At Wz20 Wz12.heap.size (.cells #[.int .i64 0, .int .i64 0, .int .i64 0, .int .i64 0, .slice none 0 0] 28 (0, 0)) := nnz21.at_
  refine hK' _ _ ?_
  clear hK' K' nnz21 bz22
  go_frame
  refine ls_op rfl (fun K' hK' => ?_)
  refine wp_store_all 28 _ _ rfl rfl Wz12.heap.size rfl #[.int .i64 p, .int .i64 n, .int .i64 m, .int .i64 k0, .slice A9 L9 c9] rfl _ _ hz23 5 (by kernel_rfl) rfl rfl (one5 _ _ _ _ _ _ _) (fun Wz25 pz26 => ?_)
  replace hB := pz26.below hB (by omega)
  replace hz5 := pz26.other hz5 (by omega)
  replace hz11 := pz26.other hz11 (by omega)
  replace ho := ho.put pz26 naz24
  replace hz23 : At Wz25 Wz12.heap.size (.cells #[.int .i64 p, .int .i64 n, .int .i64 m, .int .i64 k0, .slice A9 L9 c9] 28 (0, 0)) := pz26.at_
  refine hK' _ _ ?_
  clear hK' K' pz26
  refine ls_ex (some 4) (.bool true) rfl rfl (exec_assign _ rfl (.bool true) rfl) ?_
  go_frame
  refine wpList_nil ?_
  go_wp2_with fail
  go_loopw [4] (fun s4 wr => ∃ (d : Nat) (cur : List (List Nat)) (v : Value) (b9 : Bool), s4 = .bool b9 ∧ cur.length ≤ d ∧ d ≤ 30 ∧ Hid (unA (reF p) d cur = unA (reF p) qs.length (qs.map (normQ p))) ∧ Hid (∀ q ∈ cur, GR p q) ∧ (b9 = false → unN (reF p) cur = none) ∧ Below w.heap.size w wr ∧ At wr w.heap.size (.cells #[.int .i64 p, .int .i64 n, .int .i64 m, .int .i64 k0, .slice (some ⟨g0, 0, none⟩) qs.length c] 28 (0, 0)) ∧ At wr Wz2.heap.size (.cells #[.int .i64 0, .int .i64 0, .int .i64 0, .int .i64 0, .slice none 0 0] 28 (0, 0)) ∧ At wr Wz12.heap.size (.cells #[.int .i64 p, .int .i64 n, .int .i64 m, .int .i64 k0, v] 28 (0, 0)) ∧ Own wr w.heap.size (v) (cur)) (fun s4 wm => lenW wm Wz12.heap.size + bN s4)
  case atStart => exact ⟨qs.length, _, _, true, rfl, by rw [HL9.out]; omega, hl30, Lib.hid rfl, HGm, (fun h => by cases h), hB, hz5, hz11, hz23, ho.mono (by omega)⟩
  case round =>
    clear hB hz5 hz11 ho hz23
    obtain ⟨d, cur, v, b9, rfl, hd, hd2, HA, HGc, hbn, hB, h1, h2, h3, ho⟩ := hrel
    obtain ⟨L, hL⟩ : ∃ z9, cur.length = z9 := ⟨_, rfl⟩
    obtain ⟨A9, c9, rfl⟩ := Own.rdN2 ho hL
    have HL := Lib.hid hL
    rw [hL] at hd
    clear hL
    have HM0 := Lib.hid (lenW_at h3)
    rcases b9 with _ | _
    · have HN := Lib.hid (hbn rfl)
      clear hbn
      go_upto_region 2 with (fail)
      refine wp_region_lit ?_
      refine ls_ex (some 9) (.bool false) rfl rfl (exec_move _ rfl (.bool false) rfl) ?_
      go_frame
      refine wpList_nil ?_
      go_upto_region 6 with (fail)
      refine wp_region_lit ?_
      refine ls_ex (some 17) (.agg #[.int .i64 p, .int .i64 n, .int .i64 m, .int .i64 k0, .slice A9 L c9]) rfl rfl (exec_load_all 28 _ rfl Wz12.heap.size rfl _ _ _ h3 Try.underlying28 rfl 5 (by kernel_rfl) rfl) ?_
      go_frame
      refine ls_op rfl (fun K' hK' => ?_)
      refine wp_store_all 28 _ _ rfl rfl Wz2.heap.size rfl #[.int .i64 p, .int .i64 n, .int .i64 m, .int .i64 k0, .slice A9 L c9] rfl _ _ h2 5 (by kernel_rfl) rfl rfl (one5 _ _ _ _ _ _ _) (fun Wz27 pz28 => ?_)
      replace hB := pz28.below hB (by omega)
      replace h1 := pz28.other h1 (by omega)
      replace h3 := pz28.other h3 (by omega)
      replace ho := ho.put pz28 (ho.off h2 (by decide))
      replace h2 : At Wz27 Wz2.heap.size (.cells #[.int .i64 p, .int .i64 n, .int .i64 m, .int .i64 k0, .slice A9 L c9] 28 (0, 0)) := pz28.at_
      refine hK' _ _ ?_
      clear hK' K' pz28
      refine wpList_nil ?_
      go_wp2_with fail
      refine bodyPost_ret (results_at rfl _ _ Wz2.heap.size _ _ _ rfl h2 Try.underlying28 rfl 5 (by kernel_rfl) rfl) rfl ?_
      exact ⟨_, rfl, by rw [← HA.out, unA_none HN.out]; exact ho, hB⟩
    · clear hbn
      rcases hn : unN (reF p) cur with _ | X
      · have HNm := Lib.hid hn
        clear hn
        go_upto_region 2 with (fail)
        refine wp_region_lit ?_
        refine ls_ex (some 9) (.bool true) rfl rfl (exec_move _ rfl (.bool true) rfl) ?_
        go_frame
        refine wpList_nil ?_
        go_upto_region 3 with (fail)
        refine wp_region_lit ?_
        refine ls_ex (some 11) (.agg #[.int .i64 p, .int .i64 n, .int .i64 m, .int .i64 k0, .slice A9 L c9]) rfl rfl (exec_load_all 28 _ rfl Wz12.heap.size rfl _ _ _ h3 Try.underlying28 rfl 5 (by kernel_rfl) rfl) ?_
        go_frame
        refine ls_op rfl (fun K' hK' => ?_)
        have lz31 := hB.size
        have lz32 := h1.lt
        have lz33 := h2.lt
        have lz34 := h3.lt
        refine wp_call1 (some 12) rfl 55 _ _ rfl (fun args w => by kernel_rfl) _ rfl _ (l03Step_none p n m k0 w.heap.size A9 c9 L cur _ hpp ho HGc.out (by omega) HL.out HNm.out) (fun e Wz29 h => ?_)
        obtain ⟨rfl, bz30⟩ := h
        replace hB := below_after hB bz30
        replace h1 := h1.after bz30
        replace h2 := h2.after bz30
        replace h3 := h3.after bz30
        replace ho := ho.below bz30
        clear bz30
        refine ⟨_, rfl, ?_⟩
        refine hK' _ _ ?_
        clear hK' K'
        go_frame
        refine ls_ex (some 10) (.tuple #[.agg #[.int .i64 p, .int .i64 n, .int .i64 m, .int .i64 k0, .slice A9 L c9], .bool false]) rfl rfl (exec_move _ rfl (.tuple #[.agg #[.int .i64 p, .int .i64 n, .int .i64 m, .int .i64 k0, .slice A9 L c9], .bool false]) rfl) ?_
        go_frame
        refine ls_ex (some 13) (.agg #[.int .i64 p, .int .i64 n, .int .i64 m, .int .i64 k0, .slice A9 L c9]) rfl rfl (exec_extract _ 0 rfl #[.agg #[.int .i64 p, .int .i64 n, .int .i64 m, .int .i64 k0, .slice A9 L c9], .bool false] (by rfl) _ rfl) ?_
        go_frame
        refine ls_ex (some 14) (.bool false) rfl rfl (exec_extract _ 1 rfl #[.agg #[.int .i64 p, .int .i64 n, .int .i64 m, .int .i64 k0, .slice A9 L c9], .bool false] (by rfl) _ rfl) ?_
        go_frame
        refine ls_op rfl (fun K' hK' => ?_)
        have lz35 := hB.size
        have lz36 := h1.lt
        have lz37 := h2.lt
        have lz38 := h3.lt
        have naz43 := ho.away_new
        refine wp_new (some 5) rfl (alRb_impl_Scheme rfl) (fun Wz39 nnz40 => ?_)
        have bz41 := nnz40.below (Below.refl _ _) (Nat.le_refl _)
        replace hB := below_after hB bz41
        replace h1 := h1.after bz41
        replace h2 := h2.after bz41
        replace h3 := h3.after bz41
        replace ho := ho.below bz41
        have hz42 : At Wz39 Wz29.heap.size (.cells #[.int .i64 0, .int .i64 0, .int .i64 0, .int .i64 0, .slice none 0 0] 28 (0, 0)) := nnz40.at_
        refine hK' _ _ ?_
        clear hK' K' nnz40 bz41
        go_frame
        refine ls_op rfl (fun K' hK' => ?_)
        refine wp_store_all 28 _ _ rfl rfl Wz29.heap.size rfl #[.int .i64 p, .int .i64 n, .int .i64 m, .int .i64 k0, .slice A9 L c9] rfl _ _ hz42 5 (by kernel_rfl) rfl rfl (one5 _ _ _ _ _ _ _) (fun Wz44 pz45 => ?_)
        replace hB := pz45.below hB (by omega)
        replace h1 := pz45.other h1 (by omega)
        replace h2 := pz45.other h2 (by omega)
        replace h3 := pz45.other h3 (by omega)
        replace ho := ho.put pz45 naz43
        replace hz42 : At Wz44 Wz29.heap.size (.cells #[.int .i64 p, .int .i64 n, .int .i64 m, .int .i64 k0, .slice A9 L c9] 28 (0, 0)) := pz45.at_
        refine hK' _ _ ?_
        clear hK' K' pz45
        refine ls_ex (some 6) (.bool false) rfl rfl (exec_assign _ rfl (.bool false) rfl) ?_
        go_frame
        refine wpList_nil ?_
        go_upto_region 4 with (fail)
        refine wp_region_lit ?_
        refine ls_ex (some 15) (.agg #[.int .i64 p, .int .i64 n, .int .i64 m, .int .i64 k0, .slice A9 L c9]) rfl rfl (exec_load_all 28 _ rfl Wz29.heap.size rfl _ _ _ hz42 Try.underlying28 rfl 5 (by kernel_rfl) rfl) ?_
        go_frame
        refine ls_op rfl (fun K' hK' => ?_)
        refine wp_store_all 28 _ _ rfl rfl Wz12.heap.size rfl #[.int .i64 p, .int .i64 n, .int .i64 m, .int .i64 k0, .slice A9 L c9] rfl _ _ h3 5 (by kernel_rfl) rfl rfl (one5 _ _ _ _ _ _ _) (fun Wz46 pz47 => ?_)
        replace hB := pz47.below hB (by omega)
        replace h1 := pz47.other h1 (by omega)
        replace h2 := pz47.other h2 (by omega)
        replace ho := ho.put pz47 (ho.off h3 (by decide))
        replace hz42 := pz47.other hz42 (by omega)
        replace h3 : At Wz46 Wz12.heap.size (.cells #[.int .i64 p, .int .i64 n, .int .i64 m, .int .i64 k0, .slice A9 L c9] 28 (0, 0)) := pz47.at_
        refine hK' _ _ ?_
        clear hK' K' pz47
        refine wpList_nil ?_
        go_upto_region 5 with (fail)
        refine wp_region_lit ?_
        refine ls_ex (some 16) (.bool false) rfl rfl (exec_move _ rfl (.bool false) rfl) ?_
        go_frame
        refine ls_ex (some 4) (.bool false) rfl rfl (exec_assign _ rfl (.bool false) rfl) ?_
        go_frame
        refine wpList_nil ?_
        go_wp2_with fail
        go_roundw
        case rel => exact ⟨d, cur, _, false, rfl, by rw [HL.out]; omega, hd2, HA, HGc, fun _ => HNm.out, hB, h1, h2, h3, ho⟩
        case measure => simp only [bN]; rw [lenW_at h3, HM0.out]; omega
      · have HNm := Lib.hid hn
        have hX := unN_facts HGc.out (reF_good hpp) hn
        clear hn
        obtain ⟨d9, hd9, hA9, hl9⟩ := unA_some HNm.out hX.1 (by rw [HL.out]; exact hd)
        have hX1 := hX.1
        have HXb := Lib.hid hX.2
        obtain ⟨N8, hN8⟩ : ∃ z9, X.length = z9 := ⟨_, rfl⟩
        rw [hN8, HL.out] at hX1
        rw [hN8] at hl9
        have HA9 : Hid (unA (reF p) d9 X = unA (reF p) qs.length (qs.map (normQ p))) := Lib.hid (by rw [← hA9]; exact HA.out)
        have HN8 := Lib.hid hN8
        have hd9b : d9 ≤ d := by omega
        clear hN8 hA9 hd9 hX
        go_upto_region 2 with (fail)
        refine wp_region_lit ?_
        refine ls_ex (some 9) (.bool true) rfl rfl (exec_move _ rfl (.bool true) rfl) ?_
        go_frame
        refine wpList_nil ?_
        go_upto_region 3 with (fail)
        refine wp_region_lit ?_
        refine ls_ex (some 11) (.agg #[.int .i64 p, .int .i64 n, .int .i64 m, .int .i64 k0, .slice A9 L c9]) rfl rfl (exec_load_all 28 _ rfl Wz12.heap.size rfl _ _ _ h3 Try.underlying28 rfl 5 (by kernel_rfl) rfl) ?_
        go_frame
        refine ls_op rfl (fun K' hK' => ?_)
        have lz50 := hB.size
        have lz51 := h1.lt
        have lz52 := h2.lt
        have lz53 := h3.lt
        have lo9 := hB.size
        refine wp_call1 (some 12) rfl 55 _ _ rfl (fun args w => by kernel_rfl) _ rfl _ (l03Step_some p n m k0 w.heap.size A9 c9 L cur _ hpp ho HGc.out (by omega) HL.out X HNm.out) (fun e Wz48 h => ?_)
        obtain ⟨v8, rfl, ho8, bz49⟩ := h
        replace hB := below_after hB bz49
        replace h1 := h1.after bz49
        replace h2 := h2.after bz49
        replace h3 := h3.after bz49
        replace ho := ho.below bz49
        obtain ⟨A8, c8, rfl⟩ := Own.rdN2 ho8 (n := N8) HN8.out
        replace ho := ho8.mono lo9
        clear ho8
        clear bz49
        refine ⟨_, rfl, ?_⟩
        refine hK' _ _ ?_
        clear hK' K'
        go_frame
        refine ls_ex (some 10) (.tuple #[.agg #[.int .i64 p, .int .i64 n, .int .i64 m, .int .i64 k0, .slice A8 N8 c8], .bool true]) rfl rfl (exec_move _ rfl (.tuple #[.agg #[.int .i64 p, .int .i64 n, .int .i64 m, .int .i64 k0, .slice A8 N8 c8], .bool true]) rfl) ?_
        go_frame
        refine ls_ex (some 13) (.agg #[.int .i64 p, .int .i64 n, .int .i64 m, .int .i64 k0, .slice A8 N8 c8]) rfl rfl (exec_extract _ 0 rfl #[.agg #[.int .i64 p, .int .i64 n, .int .i64 m, .int .i64 k0, .slice A8 N8 c8], .bool true] (by rfl) _ rfl) ?_
        go_frame
        refine ls_ex (some 14) (.bool true) rfl rfl (exec_extract _ 1 rfl #[.agg #[.int .i64 p, .int .i64 n, .int .i64 m, .int .i64 k0, .slice A8 N8 c8], .bool true] (by rfl) _ rfl) ?_
        go_frame
        refine ls_op rfl (fun K' hK' => ?_)
        have lz54 := hB.size
        have lz55 := h1.lt
        have lz56 := h2.lt
        have lz57 := h3.lt
        have naz62 := ho.away_new
        refine wp_new (some 5) rfl (alRb_impl_Scheme rfl) (fun Wz58 nnz59 => ?_)
        have bz60 := nnz59.below (Below.refl _ _) (Nat.le_refl _)
        replace hB := below_after hB bz60
        replace h1 := h1.after bz60
        replace h2 := h2.after bz60
        replace h3 := h3.after bz60
        replace ho := ho.below bz60
        have hz61 : At Wz58 Wz48.heap.size (.cells #[.int .i64 0, .int .i64 0, .int .i64 0, .int .i64 0, .slice none 0 0] 28 (0, 0)) := nnz59.at_
        refine hK' _ _ ?_
        clear hK' K' nnz59 bz60
        go_frame
        refine ls_op rfl (fun K' hK' => ?_)
        refine wp_store_all 28 _ _ rfl rfl Wz48.heap.size rfl #[.int .i64 p, .int .i64 n, .int .i64 m, .int .i64 k0, .slice A8 N8 c8] rfl _ _ hz61 5 (by kernel_rfl) rfl rfl (one5 _ _ _ _ _ _ _) (fun Wz63 pz64 => ?_)
        replace hB := pz64.below hB (by omega)
        replace h1 := pz64.other h1 (by omega)
        replace h2 := pz64.other h2 (by omega)
        replace h3 := pz64.other h3 (by omega)
        replace ho := ho.put pz64 naz62
        replace hz61 : At Wz63 Wz48.heap.size (.cells #[.int .i64 p, .int .i64 n, .int .i64 m, .int .i64 k0, .slice A8 N8 c8] 28 (0, 0)) := pz64.at_
        refine hK' _ _ ?_
        clear hK' K' pz64
        refine ls_ex (some 6) (.bool true) rfl rfl (exec_assign _ rfl (.bool true) rfl) ?_
        go_frame
        refine wpList_nil ?_
        go_upto_region 4 with (fail)
        refine wp_region_lit ?_
        refine ls_ex (some 15) (.agg #[.int .i64 p, .int .i64 n, .int .i64 m, .int .i64 k0, .slice A8 N8 c8]) rfl rfl (exec_load_all 28 _ rfl Wz48.heap.size rfl _ _ _ hz61 Try.underlying28 rfl 5 (by kernel_rfl) rfl) ?_
        go_frame
        refine ls_op rfl (fun K' hK' => ?_)
        refine wp_store_all 28 _ _ rfl rfl Wz12.heap.size rfl #[.int .i64 p, .int .i64 n, .int .i64 m, .int .i64 k0, .slice A8 N8 c8] rfl _ _ h3 5 (by kernel_rfl) rfl rfl (one5 _ _ _ _ _ _ _) (fun Wz65 pz66 => ?_)
        replace hB := pz66.below hB (by omega)
        replace h1 := pz66.other h1 (by omega)
        replace h2 := pz66.other h2 (by omega)
        replace ho := ho.put pz66 (ho.off h3 (by decide))
        replace hz61 := pz66.other hz61 (by omega)
        replace h3 : At Wz65 Wz12.heap.size (.cells #[.int .i64 p, .int .i64 n, .int .i64 m, .int .i64 k0, .slice A8 N8 c8] 28 (0, 0)) := pz66.at_
        refine hK' _ _ ?_
        clear hK' K' pz66
        refine wpList_nil ?_
        go_upto_region 5 with (fail)
        refine wp_region_lit ?_
        refine ls_ex (some 16) (.bool true) rfl rfl (exec_move _ rfl (.bool true) rfl) ?_
        go_frame
        refine ls_ex (some 4) (.bool true) rfl rfl (exec_assign _ rfl (.bool true) rfl) ?_
        go_frame
        refine wpList_nil ?_
        go_wp2_with fail
        go_roundw
        case rel => exact ⟨d9, X, _, true, rfl, by rw [HN8.out]; omega, by omega, HA9, HXb, (fun h => by cases h), hB, h1, h2, h3, ho⟩
        case measure => simp only [bN]; rw [lenW_at h3, HM0.out]; omega
end Go.Proofs.Ytemkhlokpinecaa
