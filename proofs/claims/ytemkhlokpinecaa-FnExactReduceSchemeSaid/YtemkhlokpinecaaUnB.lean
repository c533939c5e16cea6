/-
  impl.united for any function value. (Made by mkunb.py.)
-/
import Derived.Test.YtemkhlokpinecaaUnA
import Derived.Test.YtemkhlokpinecaaWs1
namespace Go.Proofs.Ytemkhlokpinecaa
open Go.RowKit
set_option maxRecDepth 100000
theorem cloneP_some (a9 : Addr) (c : Nat) (qs : List (List Nat)) (w : World) (hr : Rd w (some a9) qs) (hn : qs.length ≤ 1000) :
    Calls Try.prog 60 #[.slice (some a9) qs.length c] w fun e w' => ∃ v, e = .returned v ∧ Own w' w.heap.size v qs ∧ Below w.heap.size w w' := by
  go_enter Try.func60, Try.ntmps60
  have o0 : Own (w.alloc (.cells #[] 53 (0, 0))) w.heap.size (.slice (some ⟨w.heap.size, 0, none⟩) 0 0) [] := ⟨by simp [u8s], .inr ⟨w.heap.size, 0, #[], rfl, Nat.le_refl _, al1_0 _ _, by simp, by simp, by simp, by simp [u8s]⟩⟩
  have b0 := below1 w (.cells #[] 53 (0, 0))
  have hr0 := hr.keep b0
  go_wp2_with (first | (refine wpList_of_exec rfl (exec_eqnil 26 26 53 _ _ rfl Try.underlying26 (some a9) qs.length c rfl rfl) ?_) | (at_builtin; refine wpList_append_rd rfl _ rfl _ _ rfl (.slice (some ⟨w.heap.size, 0, none⟩) 0 0) [] qs rfl o0 (some a9) c rfl hr0 (by simp) (by simp; omega) b0.size ?_; intro v1 w1 ho1 gr1))
  go_ret
  rw [List.nil_append] at ho1
  exact ⟨v1, rfl, ho1, below_grown b0 gr1 o0 (Nat.le_refl _)⟩
theorem cloneP_none (n c : Nat) (hn : n = 0) (w : World) :
    Calls Try.prog 60 #[.slice none n c] w fun e w' => ∃ v, e = .returned v ∧ Own w' w.heap.size v [] ∧ Below w.heap.size w w' := by
  subst hn
  go_enter Try.func60, Try.ntmps60
  go_wp2_with (first | (refine wpList_of_exec rfl (exec_eqnil 26 26 53 _ _ rfl Try.underlying26 none 0 c rfl rfl) ?_))
  go_ret
  exact ⟨_, rfl, Own.nil _ _, Below.refl _ _⟩
theorem cloneP_c (A : Option Addr) (c : Nat) (qs : List (List Nat)) (w : World) (hr : Rd w A qs) (hn : qs.length ≤ 1000) :
    Calls Try.prog 60 #[.slice A qs.length c] w fun e w' => ∃ v, e = .returned v ∧ Own w' w.heap.size v qs ∧ Below w.heap.size w w' := by
  by_cases h0 : qs = []
  · subst h0
    cases A with
    | none => exact cloneP_none 0 c rfl w
    | some a => exact cloneP_some a c [] w hr hn
  · obtain ⟨b, off, rfl, _⟩ := hr.at_ (i := 0) (by cases qs; exact absurd rfl h0; simp)
    exact cloneP_some ⟨b, off, none⟩ c qs w hr hn
theorem wp_callv2 {P : Program} {Q : Exit → Act → World → Prop} {o : Oper} {a : Act} {w : World} {K : Act → World → Prop} (d : Option Tmp) (hd : o.dst = d) (fv x y : Operand) (ts : Array TypeId) (ho : o.op = .call { callee := .value fv, args := #[x, y], argTypes := ts }) (f : Nat) (caps : Array Value) (hf : a.eval fv = .func (.func f) #[] caps) (hcall : ∀ args w, (callFunc f args).run P w = .ok (.enter f args) w)
    (v1 v2 : Value) (hx : a.eval x = v1) (hy : a.eval y = v2) (post : Ending → World → Prop) (hc : Calls P f (#[v1, v2] ++ caps) w post) (h : ∀ e w', post e w' → ∃ v, e = .returned v ∧ K (a.put d v) w') : Oper.wp P o a w K Q := by
  subst hd
  have hm : #[x, y].map a.eval = #[v1, v2] := by simp [hx, hy]
  unfold Oper.wp execOp
  simp only [ho, resolve, hf, Deferred.ofValue, Sem.run_bind, Sem.run_pure, Result.andThen_ok, invoke, hcall, Array.empty_append, hm]
  rw [Oper.upon_enter]
  refine hc.mono fun e w' hp => ?_
  obtain ⟨v, rfl, hk⟩ := h e w' hp
  exact hk
def lenV : Value → Nat
  | .slice _ n _ => n
  | _ => 0
/-- What a function that unites two products returns. -/
def unV : Option (List Nat) → Value
  | some one => .tuple #[.agg (u8s one), .bool true]
  | none => .tuple #[.agg (u8s (List.replicate 27 0)), .bool false]
theorem unV_some (one : List Nat) : unV (some one) = .tuple #[.agg (u8s one), .bool true] := rfl
theorem unV_none : unV none = .tuple #[.agg (u8s (List.replicate 27 0)), .bool false] := rfl
theorem Own.c27u {w : World} {lo g n c : Nat} {cur : List (List Nat)} (h : Own w lo (.slice (some ⟨g, 0, none⟩) n c) cur) (hb : ∀ q ∈ cur, Bytes 27 q) {i : Nat} {q : List Nat} (hi : cur[i]? = some q) : ∀ j, j < 27 → w.cell? ⟨g, i * 27 + j, none⟩ = some (.int .u8 ((q[j]?.getD 0 : Nat) : Int)) := by
  obtain ⟨hl, rfl⟩ := List.getElem?_eq_some_iff.1 hi
  intro j hj
  have := Rd.cells27 (h.rd' hb) hl j hj
  rwa [Nat.zero_add] at this
attribute [local irreducible] wpList
theorem alUb_impl_Product {o : Oper} {a : Act} {w : World} (ho : o.op = .alloc 53) : (execOp a.eval o).run Try.prog w = .ok (.value (.pointer (some ⟨w.heap.size, 0, none⟩))) (w.alloc (.cells (u8s (List.replicate 27 0)) 53 (0, 0))) := by
  unfold execOp
  rw [ho]
  kernel_rfl
set_option maxHeartbeats 25600000 in
theorem united_c (un : List Nat → List Nat → Option (List Nat)) (G : List Nat → Prop) (f : Nat) (caps : Array Value) (A : Option Addr) (c : Nat) (qs : List (List Nat)) (w : World) (hcall : ∀ args w, (callFunc f args).run Try.prog w = .ok (.enter f args) w) (hR : Rd w A qs) (hlen : qs.length ≤ 1000) (hGb : ∀ q, G q → Bytes 27 q) (hGq : ∀ q ∈ qs, G q) (hGu : ∀ q r one, G q → G r → un q r = some one → Bytes 27 one ∧ (nzB one = true → G one)) (hU : ∀ q r w', Below w.heap.size w w' → G q → G r → Calls Try.prog f (#[.agg (u8s q), .agg (u8s r)] ++ caps) w' fun e w'' => e = .returned (unV (un q r)) ∧ Below w'.heap.size w' w'') :
    Calls Try.prog 27 #[.slice A qs.length c, .func (.func f) #[] caps] w (fun e w' => ∃ v, e = .returned v ∧ Own w' w.heap.size v (unA un qs.length qs) ∧ Below w.heap.size w w') := by
  have hB := Below.refl w.heap.size w
  have Hcall := Lib.hid hcall
  have HGb := Lib.hid hGb
  have HGq := Lib.hid hGq
  have HGu := Lib.hid hGu
  have HUc := Lib.hid hU
  clear hcall hGb hGq hGu hU
  go_enter Try.func27, Try.ntmps27
  go_upto_region 0 with (fail)
  refine wp_region_lit ?_
  refine ls_ex (some 4) (.slice none 0 0) rfl rfl (exec_assign _ rfl (.slice none 0 0) rfl) ?_
  go_frame
  refine wpList_nil ?_
  go_wp2_with fail
  go_step3
  go_upto_region 1 with (fail)
  refine wp_region_lit ?_
  refine ls_ex (some 11) (.slice A qs.length c) rfl rfl (exec_move _ rfl (.slice A qs.length c) rfl) ?_
  go_frame
  refine ls_op rfl (fun K' hK' => ?_)
  have lz3 := hB.size
  refine wp_call1 (some 12) rfl 60 _ _ rfl (fun args w => by kernel_rfl) _ rfl _ (cloneP_c A c qs _ (hR.keep hB) (by omega)) (fun e Wz1 h => ?_)
  obtain ⟨v8, rfl, ho, bz2⟩ := h
  replace hB := below_after hB bz2
  obtain ⟨A8, c8, rfl⟩ := Own.rdN2 ho (n := qs.length) rfl
  clear bz2
  refine ⟨_, rfl, ?_⟩
  refine hK' _ _ ?_
  clear hK' K'
  go_frame
  refine ls_ex (some 5) (.slice A8 qs.length c8) rfl rfl (exec_assign _ rfl (.slice A8 qs.length c8) rfl) ?_
  go_frame
  refine wpList_nil ?_
  go_wp2_with fail
  go_step3
  go_wp2_with fail
  go_loopw [5] (fun s5 wr => ∃ (d : Nat) (cur : List (List Nat)) (v : Value), v = s5 ∧ cur.length ≤ d ∧ d ≤ 1000 ∧ Hid (unA un d cur = unA un qs.length qs) ∧ Hid (∀ q ∈ cur, G q) ∧ Below w.heap.size w wr ∧ Own wr w.heap.size v cur) (fun s5 _ => lenV s5)
  case atStart => exact ⟨qs.length, qs, _, rfl, Nat.le_refl _, hlen, Lib.hid rfl, HGq, hB, ho⟩
  case round =>
    clear hB ho
    obtain ⟨d, cur, v, rfl, hd, hd2, HA, HGc, hB, ho⟩ := hrel
    obtain ⟨L, hL⟩ : ∃ z9, cur.length = z9 := ⟨_, rfl⟩
    obtain ⟨A9, c9, rfl⟩ := Own.rdN2 ho hL
    have HL := Lib.hid hL
    rw [hL] at hd
    have HCb : Hid (∀ q ∈ cur, Bytes 27 q) := Lib.hid (fun x hx => HGb.out x (HGc.out x hx))
    have HC27 : Hid (∀ q ∈ cur, q.length = 27) := Lib.hid (fun x hx => (HCb.out x hx).len)
    clear hL
    go_upto_region 2 with (fail)
    refine wp_region_lit ?_
    refine ls_ex (some 13) (.slice A9 L c9) rfl rfl (exec_move _ rfl (.slice A9 L c9) rfl) ?_
    go_frame
    refine ls_ex (some 14) (.int .i64 L) rfl rfl (exec_len _ 26 53 rfl A9 L c9 rfl Try.underlying26) ?_
    go_frame
    refine ls_ex (some 15) (.int .i64 0) rfl rfl (exec_move _ rfl (.int .i64 0) rfl) ?_
    go_frame
    refine wpList_nil ?_
    go_wp2_with fail
    obtain ⟨we, rfl⟩ : ∃ x : World, x = wr := ⟨_, rfl⟩
    go_loopw [5, 15] (fun s5 s15 wr => ∃ i : Nat, i ≤ L ∧ s15 = .int .i64 i ∧ s5 = .slice A9 L c9 ∧ Hid (unI un cur (L - i) = unN un cur) ∧ Below w.heap.size w wr ∧ Own wr w.heap.size (.slice A9 L c9) cur) (fun _ s15 _ => L - (intOf s15).toNat)
    case atStart => exact ⟨0, by omega, rfl, rfl, Lib.hid (by rw [Nat.sub_zero, ← HL.out]; rfl), hB, ho⟩
    case round =>
      clear hB ho
      obtain ⟨i, hle2, rfl, rfl, HN, hB, ho⟩ := hrel
      by_cases hlt2 : i < L
      · have hi : i < cur.length := by rw [HL.out]; exact hlt2
        obtain ⟨g, rfl, hg⟩ := ho.blk (by omega)
        obtain ⟨q, hq⟩ : ∃ z9, cur[i]? = some z9 := ⟨_, List.getElem?_eq_getElem hi⟩
        have HQ := Lib.hid hq
        have HGQ := Lib.hid (HGc.out q (List.mem_of_getElem? hq))
        have HQb := Lib.hid (HGb.out q HGQ.out)
        clear hq
        have HN2 : Hid ((unK un cur i (L - (i + 1))).or (unI un cur (L - (i + 1))) = unN un cur) := Lib.hid (by rw [← HN.out]; have h9 := unI_step (un := un) hi; rw [HL.out] at h9; exact h9.symm)
        go_upto_region 3 with (fail)
        refine wp_region_lit ?_
        refine ls_ex (some 16) (.bool true) rfl rfl (exec_lss _ _ _ _ rfl i L rfl rfl true (decide_eq_true (by omega))) ?_
        go_frame
        refine wpList_nil ?_
        go_upto_region 4 with (fail)
        refine wp_region_lit ?_
        refine ls_ex (some 17) (.int .i64 i) rfl rfl (exec_move _ rfl (.int .i64 i) rfl) ?_
        go_frame
        refine ls_ex (some 18) (.pointer (some ⟨g, i * 27, none⟩)) rfl rfl (exec_ix0 _ 53 _ _ rfl g L c9 i 27 rfl rfl Try.underlying26 (by kernel_rfl) (by omega)) ?_
        go_frame
        refine ls_ex (some 19) (.agg (u8s (q))) rfl rfl (exec_load_cells 53 _ rfl g (i * 27) rfl (q) _ 27 (Own.c27u ho HCb.out HQ.out) Try.underlying53 rfl (by kernel_rfl) (HQb.out.len)) ?_
        go_frame
        refine ls_op rfl (fun K' hK' => ?_)
        have lz4 := hB.size
        have naz9 := ho.away_new
        refine wp_new (some 7) rfl (alUb_impl_Product rfl) (fun Wz5 nnz6 => ?_)
        have bz7 := nnz6.below (Below.refl _ _) (Nat.le_refl _)
        replace hB := below_after hB bz7
        replace ho := ho.below bz7
        have hz8 : At Wz5 wr.heap.size (.cells (u8s (List.replicate 27 0)) 53 (0, 0)) := nnz6.at_
        refine hK' _ _ ?_
        clear hK' K' nnz6 bz7
        go_frame
        refine ls_ex (some 6) (.int .i64 i) rfl rfl (exec_assign _ rfl (.int .i64 i) rfl) ?_
        go_frame
        refine ls_op rfl (fun K' hK' => ?_)
        refine wp_store_bytes 53 _ _ rfl rfl wr.heap.size rfl (q) rfl _ _ hz8 27 (by kernel_rfl) HQb.out.len (by simp) (fun Wz10 pz11 => ?_)
        replace hB := pz11.below hB (by omega)
        replace ho := ho.put pz11 naz9
        replace hz8 : At Wz10 wr.heap.size (.cells (u8s (q)) 53 (0, 0)) := pz11.at_
        refine hK' _ _ ?_
        clear hK' K' pz11
        refine wpList_nil ?_
        go_upto_region 5 with (fail)
        refine wp_region_lit ?_
        refine ls_ex (some 20) (.int .i64 i) rfl rfl (exec_move _ rfl (.int .i64 i) rfl) ?_
        go_frame
        refine ls_ex (some 21) (.int .i64 (i + 1)) rfl rfl (exec_add _ _ _ _ rfl i 1 (i + 1) rfl rfl (IntWalk.i64_in _ (by omega))) ?_
        go_frame
        refine ls_ex (some 8) (.int .i64 (i + 1)) rfl rfl (exec_assign _ rfl (.int .i64 (i + 1)) rfl) ?_
        go_frame
        refine wpList_nil ?_
        go_wp2_with fail
        obtain ⟨wf, rfl⟩ : ∃ x : World, x = wr := ⟨_, rfl⟩
        go_loopw [5, 8] (fun s5 s8 wr => ∃ k : Nat, i < k ∧ k ≤ L ∧ s8 = .int .i64 k ∧ s5 = .slice (some ⟨g, 0, none⟩) L c9 ∧ Hid ((unK un cur i (L - k)).or (unI un cur (L - (i + 1))) = unN un cur) ∧ Below w.heap.size w wr ∧ Own wr w.heap.size (.slice (some ⟨g, 0, none⟩) L c9) cur ∧ At wr wf.heap.size (.cells (u8s (q)) 53 (0, 0))) (fun _ s8 _ => L - (intOf s8).toNat)
        case atStart => exact ⟨i + 1, by omega, by omega, by go_num, rfl, HN2, hB, ho, hz8⟩
        case round =>
          clear hB ho hz8
          obtain ⟨k, hik, hk, rfl, rfl, HK, hB, ho, h7⟩ := hrel
          by_cases hlt3 : k < L
          · have hkc : k < cur.length := by rw [HL.out]; exact hlt3
            obtain ⟨r, hr⟩ : ∃ z9, cur[k]? = some z9 := ⟨_, List.getElem?_eq_getElem hkc⟩
            have HR := Lib.hid hr
            have HGR := Lib.hid (HGc.out r (List.mem_of_getElem? hr))
            have HRb := Lib.hid (HGb.out r HGR.out)
            clear hr
            rcases hu : un q r with _ | one
            · have Hu := Lib.hid hu
              clear hu
              have HK2 : Hid ((unK un cur i (L - (k + 1))).or (unI un cur (L - (i + 1))) = unN un cur) := Lib.hid (by have h9 := HK.out; rw [show L - k = cur.length - k by rw [HL.out], unK_none HQ.out HR.out Hu.out, HL.out] at h9; exact h9)
              go_upto_region 6 with (fail)
              refine wp_region_lit ?_
              refine ls_ex (some 22) (.int .i64 k) rfl rfl (exec_move _ rfl (.int .i64 k) rfl) ?_
              go_frame
              refine ls_ex (some 23) (.slice (some ⟨g, 0, none⟩) L c9) rfl rfl (exec_move _ rfl (.slice (some ⟨g, 0, none⟩) L c9) rfl) ?_
              go_frame
              refine ls_ex (some 24) (.int .i64 L) rfl rfl (exec_len _ 26 53 rfl ((some ⟨g, 0, none⟩)) L c9 rfl Try.underlying26) ?_
              go_frame
              refine ls_ex (some 25) (.bool true) rfl rfl (exec_lss _ _ _ _ rfl k L rfl rfl true (decide_eq_true (by omega))) ?_
              go_frame
              refine wpList_nil ?_
              go_upto_region 8 with (fail)
              refine wp_region_y (zs := []) (S := fun w' => Below w.heap.size w w' ∧ At w' wf.heap.size (.cells (u8s (q)) 53 (0, 0)) ∧ Own w' w.heap.size (.slice (some ⟨g, 0, none⟩) L c9) (cur)) (S2 := fun w' => True) (by kernel_rfl) ?_
              change wpAnyY _ _ _ _ _ _ _ _ _ _ (World.drew _)
              generalize hwdz12 : World.drew _ = wdz12
              replace hB : Below w.heap.size w wdz12 := by rw [← hwdz12]; exact hB.drew
              replace ho : Own wdz12 w.heap.size (.slice (some ⟨g, 0, none⟩) L c9) (cur) := by rw [← hwdz12]; exact ho.drew
              replace h7 : At wdz12 wf.heap.size (.cells (u8s (q)) 53 (0, 0)) := by rw [← hwdz12]; exact h7
              clear hwdz12
              refine y_yield 0 (some 29) (.func (.func f) #[] caps) rfl (by kernel_rfl) (by kernel_rfl) (by kernel_rfl) (fun _ _ _ h => h) rfl rfl ⟨hB, h7, ho⟩ (fun w' h' => exec_move _ rfl (.func (.func f) #[] caps) rfl) ?_
              go_frame
              refine y_yield 1 (some 30) (.agg (u8s (q))) rfl (by kernel_rfl) (by kernel_rfl) (by kernel_rfl) (fun _ _ _ h => h) rfl rfl ⟨hB, h7, ho⟩ (fun w' h' => exec_load_all 53 _ rfl wf.heap.size rfl _ _ _ h'.2.1 Try.underlying53 rfl 27 (by kernel_rfl) ((u8s_size _).trans HQb.out.len)) ?_
              go_frame
              refine y_yield 2 (some 31) (.slice (some ⟨g, 0, none⟩) L c9) rfl (by kernel_rfl) (by kernel_rfl) (by kernel_rfl) (fun _ _ _ h => h) rfl rfl ⟨hB, h7, ho⟩ (fun w' h' => exec_move _ rfl (.slice (some ⟨g, 0, none⟩) L c9) rfl) ?_
              go_frame
              refine y_yield 3 (some 32) (.int .i64 k) rfl (by kernel_rfl) (by kernel_rfl) (by kernel_rfl) (fun _ _ _ h => h) rfl rfl ⟨hB, h7, ho⟩ (fun w' h' => exec_move _ rfl (.int .i64 k) rfl) ?_
              go_frame
              refine y_yield 4 (some 33) (.pointer (some ⟨g, k * 27, none⟩)) rfl (by kernel_rfl) (by kernel_rfl) (by kernel_rfl) (fun _ _ _ h => h) rfl rfl ⟨hB, h7, ho⟩ (fun w' h' => exec_ix0 _ 53 _ _ rfl g L c9 k 27 rfl rfl Try.underlying26 (by kernel_rfl) (by omega)) ?_
              go_frame
              refine y_yield 5 (some 34) (.agg (u8s (r))) rfl (by kernel_rfl) (by kernel_rfl) (by kernel_rfl) (fun _ _ _ h => h) rfl rfl ⟨hB, h7, ho⟩ (fun w' h' => exec_load_cells 53 _ rfl g (k * 27) rfl (r) _ 27 (Own.c27u h'.2.2 HCb.out HR.out) Try.underlying53 rfl (by kernel_rfl) (HRb.out.len)) ?_
              go_frame
              refine y_two 6 10 (by kernel_rfl) rfl rfl rfl rfl (fun K' hK' => ?_) (fun K' hK' => ?_)
              · have lz15 := hB.size
                have lz16 := h7.lt
                refine wp_callv2 (some 35) rfl _ _ _ _ rfl f caps rfl Hcall.out _ _ rfl rfl _ (HUc.out q r _ hB HGQ.out HGR.out) (fun e Wz13 h => ?_)
                obtain ⟨rfl, bz14⟩ := h
                rw [Hu.out, unV_none]
                replace hB := below_after hB bz14
                replace ho := ho.below bz14
                replace h7 := h7.after bz14
                clear bz14
                refine ⟨_, rfl, ?_⟩
                refine hK' _ _ ⟨hB, h7, ho⟩ (fun _ => trivial) ?_
                clear hK' K'
                go_frame
                refine y_yield 7 (some 28) (.tuple #[.agg (u8s (List.replicate 27 0)), .bool false]) rfl (by kernel_rfl) (by kernel_rfl) (by kernel_rfl) (fun _ _ _ h => h) rfl rfl ⟨hB, h7, ho⟩ (fun w' h' => exec_move _ rfl (.tuple #[.agg (u8s (List.replicate 27 0)), .bool false]) rfl) ?_
                go_frame
                refine y_yield 8 (some 36) (.agg (u8s (List.replicate 27 0))) rfl (by kernel_rfl) (by kernel_rfl) (by kernel_rfl) (fun _ _ _ h => h) rfl rfl ⟨hB, h7, ho⟩ (fun w' h' => exec_extract _ 0 rfl #[.agg (u8s (List.replicate 27 0)), .bool false] (by rfl) _ rfl) ?_
                go_frame
                refine y_yield 9 (some 37) (.bool false) rfl (by kernel_rfl) (by kernel_rfl) (by kernel_rfl) (fun _ _ _ h => h) rfl rfl ⟨hB, h7, ho⟩ (fun w' h' => exec_extract _ 1 rfl #[.agg (u8s (List.replicate 27 0)), .bool false] (by rfl) _ rfl) ?_
                go_frame
                refine y_oper 10 (by kernel_rfl) rfl rfl (fun K' hK' => ?_)
                have lz17 := hB.size
                have lz18 := h7.lt
                have naz23 := ho.away_new
                refine wp_new (some 9) rfl (alUb_impl_Product rfl) (fun Wz19 nnz20 => ?_)
                have bz21 := nnz20.below (Below.refl _ _) (Nat.le_refl _)
                replace hB := below_after hB bz21
                replace ho := ho.below bz21
                replace h7 := h7.after bz21
                have hz22 : At Wz19 Wz13.heap.size (.cells (u8s (List.replicate 27 0)) 53 (0, 0)) := nnz20.at_
                refine hK' _ _ ⟨hB, h7, ho⟩ (fun _ => trivial) ?_
                clear hK' K' nnz20 bz21
                go_frame
                refine y_oper 11 (by kernel_rfl) rfl rfl (fun K' hK' => ?_)
                refine wp_store_bytes 53 _ _ rfl rfl Wz13.heap.size rfl (List.replicate 27 0) rfl _ _ hz22 27 (by kernel_rfl) (by simp) (by simp) (fun Wz24 pz25 => ?_)
                replace hB := pz25.below hB (by omega)
                replace ho := ho.put pz25 naz23
                replace h7 := pz25.other h7 (by omega)
                replace hz22 : At Wz24 Wz13.heap.size (.cells (u8s (List.replicate 27 0)) 53 (0, 0)) := pz25.at_
                refine hK' _ _ ⟨hB, h7, ho⟩ (fun _ => trivial) ?_
                clear hK' K' pz25
                refine y_oper 12 (by kernel_rfl) rfl rfl (fun K' hK' => ?_)
                refine wp_exec (some 10) rfl (.bool false) (exec_assign _ rfl (.bool false) rfl) ?_
                refine hK' _ _ ⟨hB, h7, ho⟩ (fun _ => trivial) ?_
                clear hK' K'
                go_frame
                refine y_done (by kernel_rfl) ?_ _
                go_upto_region 9 with (fail)
                refine wp_region_lit ?_
                refine ls_ex (some 38) (.bool false) rfl rfl (exec_move _ rfl (.bool false) rfl) ?_
                go_frame
                refine ls_ex (some 39) (.bool true) rfl rfl (exec_not _ _ rfl false rfl) ?_
                go_frame
                refine wpList_nil ?_
                go_upto_region 7 with (fail)
                refine wp_region_lit ?_
                refine ls_ex (some 26) (.int .i64 k) rfl rfl (exec_move _ rfl (.int .i64 k) rfl) ?_
                go_frame
                refine ls_ex (some 27) (.int .i64 (k + 1)) rfl rfl (exec_add _ _ _ _ rfl k 1 (k + 1) rfl rfl (IntWalk.i64_in _ (by omega))) ?_
                go_frame
                refine ls_ex (some 8) (.int .i64 (k + 1)) rfl rfl (exec_assign _ rfl (.int .i64 (k + 1)) rfl) ?_
                go_frame
                refine wpList_nil ?_
                go_wp2_with fail
                go_roundw
                case rel => exact ⟨k + 1, by omega, by omega, by go_num, rfl, HK2, hB, ho, h7⟩
                case measure => simp [intOf]; omega
              · have lz26 := hB.size
                have lz27 := h7.lt
                have naz32 := ho.away_new
                refine wp_new (some 9) rfl (alUb_impl_Product rfl) (fun Wz28 nnz29 => ?_)
                have bz30 := nnz29.below (Below.refl _ _) (Nat.le_refl _)
                replace hB := below_after hB bz30
                replace ho := ho.below bz30
                replace h7 := h7.after bz30
                have hz31 : At Wz28 wdz12.heap.size (.cells (u8s (List.replicate 27 0)) 53 (0, 0)) := nnz29.at_
                refine hK' _ _ ⟨hB, h7, ho⟩ (fun _ => trivial) ?_
                clear hK' K' nnz29 bz30
                go_frame
                refine y_oper 6 (by kernel_rfl) rfl rfl (fun K' hK' => ?_)
                have lz35 := hB.size
                have lz36 := h7.lt
                have lz37 := hz31.lt
                refine wp_callv2 (some 35) rfl _ _ _ _ rfl f caps rfl Hcall.out _ _ rfl rfl _ (HUc.out q r _ hB HGQ.out HGR.out) (fun e Wz33 h => ?_)
                obtain ⟨rfl, bz34⟩ := h
                rw [Hu.out, unV_none]
                replace hB := below_after hB bz34
                replace ho := ho.below bz34
                replace h7 := h7.after bz34
                replace hz31 := hz31.after bz34
                clear bz34
                refine ⟨_, rfl, ?_⟩
                refine hK' _ _ ⟨hB, h7, ho⟩ (fun _ => trivial) ?_
                clear hK' K'
                go_frame
                refine y_yield 7 (some 28) (.tuple #[.agg (u8s (List.replicate 27 0)), .bool false]) rfl (by kernel_rfl) (by kernel_rfl) (by kernel_rfl) (fun _ _ _ h => h) rfl rfl ⟨hB, h7, ho⟩ (fun w' h' => exec_move _ rfl (.tuple #[.agg (u8s (List.replicate 27 0)), .bool false]) rfl) ?_
                go_frame
                refine y_yield 8 (some 36) (.agg (u8s (List.replicate 27 0))) rfl (by kernel_rfl) (by kernel_rfl) (by kernel_rfl) (fun _ _ _ h => h) rfl rfl ⟨hB, h7, ho⟩ (fun w' h' => exec_extract _ 0 rfl #[.agg (u8s (List.replicate 27 0)), .bool false] (by rfl) _ rfl) ?_
                go_frame
                refine y_yield 9 (some 37) (.bool false) rfl (by kernel_rfl) (by kernel_rfl) (by kernel_rfl) (fun _ _ _ h => h) rfl rfl ⟨hB, h7, ho⟩ (fun w' h' => exec_extract _ 1 rfl #[.agg (u8s (List.replicate 27 0)), .bool false] (by rfl) _ rfl) ?_
                go_frame
                refine y_oper 11 (by kernel_rfl) rfl rfl (fun K' hK' => ?_)
                refine wp_store_bytes 53 _ _ rfl rfl wdz12.heap.size rfl (List.replicate 27 0) rfl _ _ hz31 27 (by kernel_rfl) (by simp) (by simp) (fun Wz38 pz39 => ?_)
                replace hB := pz39.below hB (by omega)
                replace ho := ho.put pz39 naz32
                replace h7 := pz39.other h7 (by omega)
                replace hz31 : At Wz38 wdz12.heap.size (.cells (u8s (List.replicate 27 0)) 53 (0, 0)) := pz39.at_
                refine hK' _ _ ⟨hB, h7, ho⟩ (fun _ => trivial) ?_
                clear hK' K' pz39
                refine y_oper 12 (by kernel_rfl) rfl rfl (fun K' hK' => ?_)
                refine wp_exec (some 10) rfl (.bool false) (exec_assign _ rfl (.bool false) rfl) ?_
                refine hK' _ _ ⟨hB, h7, ho⟩ (fun _ => trivial) ?_
                clear hK' K'
                go_frame
                refine y_done (by kernel_rfl) ?_ _
                go_upto_region 9 with (fail)
                refine wp_region_lit ?_
                refine ls_ex (some 38) (.bool false) rfl rfl (exec_move _ rfl (.bool false) rfl) ?_
                go_frame
                refine ls_ex (some 39) (.bool true) rfl rfl (exec_not _ _ rfl false rfl) ?_
                go_frame
                refine wpList_nil ?_
                go_upto_region 7 with (fail)
                refine wp_region_lit ?_
                refine ls_ex (some 26) (.int .i64 k) rfl rfl (exec_move _ rfl (.int .i64 k) rfl) ?_
                go_frame
                refine ls_ex (some 27) (.int .i64 (k + 1)) rfl rfl (exec_add _ _ _ _ rfl k 1 (k + 1) rfl rfl (IntWalk.i64_in _ (by omega))) ?_
                go_frame
                refine ls_ex (some 8) (.int .i64 (k + 1)) rfl rfl (exec_assign _ rfl (.int .i64 (k + 1)) rfl) ?_
                go_frame
                refine wpList_nil ?_
                go_wp2_with fail
                go_roundw
                case rel => exact ⟨k + 1, by omega, by omega, by go_num, rfl, HK2, hB, ho, h7⟩
                case measure => simp [intOf]; omega
            · have Hu := Lib.hid hu
              clear hu
              have HOb := Lib.hid (HGu.out q r one HGQ.out HGR.out Hu.out)
              have HX : Hid (unN un cur = some (stepL cur i k one)) := Lib.hid (by have h9 := HK.out; rw [show L - k = cur.length - k by rw [HL.out], unK_some HQ.out HR.out Hu.out] at h9; exact h9.symm)
              obtain ⟨d9, hd9, hA9, hl9⟩ := unA_some HX.out (stepL_len hkc) (by rw [HL.out]; exact hd)
              obtain ⟨N7, hN7⟩ : ∃ z9, (stepL cur i k one).length = z9 := ⟨_, rfl⟩
              have hN7L := stepL_len (i := i) (one := one) hkc
              rw [hN7, HL.out] at hN7L
              rw [hN7] at hl9
              have HA9 : Hid (unA un d9 (stepL cur i k one) = unA un qs.length qs) := Lib.hid (by rw [← hA9]; exact HA.out)
              have HN7 := Lib.hid hN7
              have hd9b : d9 ≤ d := by omega
              clear hN7 hA9 hd9
              have HG9 : Hid (∀ q ∈ stepL cur i k one, G q) := Lib.hid (fun x hx => (stepL_mem hx).2.elim (HGc.out x) (fun e => by subst e; exact HOb.out.2 (stepL_mem hx).1))
              have HSb : Hid (∀ q ∈ cur.set i one, Bytes 27 q) := Lib.hid (fun x hx => (List.mem_or_eq_of_mem_set hx).elim (HCb.out x) (fun e => by subst e; exact HOb.out.1))
              have HEb : Hid (∀ q ∈ (cur.set i one).eraseIdx k, Bytes 27 q) := Lib.hid (fun x hx => HSb.out x (List.mem_of_mem_eraseIdx hx))
              obtain ⟨N, hN⟩ : ∃ N, L = N + 1 := ⟨L - 1, by omega⟩
              have HLN := Lib.hid hN
              have hN1 : N ≤ 1000 := by omega
              have hkN : k < N + 1 := by omega
              have HEl : Hid (((cur.set i one).eraseIdx k).length ≤ 1000) := Lib.hid (by rw [List.length_eraseIdx, List.length_set, HL.out]; split <;> omega)
              clear hN
              go_upto_region 6 with (fail)
              refine wp_region_lit ?_
              refine ls_ex (some 22) (.int .i64 k) rfl rfl (exec_move _ rfl (.int .i64 k) rfl) ?_
              go_frame
              refine ls_ex (some 23) (.slice (some ⟨g, 0, none⟩) L c9) rfl rfl (exec_move _ rfl (.slice (some ⟨g, 0, none⟩) L c9) rfl) ?_
              go_frame
              refine ls_ex (some 24) (.int .i64 L) rfl rfl (exec_len _ 26 53 rfl ((some ⟨g, 0, none⟩)) L c9 rfl Try.underlying26) ?_
              go_frame
              refine ls_ex (some 25) (.bool true) rfl rfl (exec_lss _ _ _ _ rfl k L rfl rfl true (decide_eq_true (by omega))) ?_
              go_frame
              refine wpList_nil ?_
              go_upto_region 8 with (fail)
              refine wp_region_y (zs := []) (S := fun w' => Below w.heap.size w w' ∧ At w' wf.heap.size (.cells (u8s (q)) 53 (0, 0)) ∧ Own w' w.heap.size (.slice (some ⟨g, 0, none⟩) L c9) (cur)) (S2 := fun w' => True) (by kernel_rfl) ?_
              change wpAnyY _ _ _ _ _ _ _ _ _ _ (World.drew _)
              generalize hwdz40 : World.drew _ = wdz40
              replace hB : Below w.heap.size w wdz40 := by rw [← hwdz40]; exact hB.drew
              replace ho : Own wdz40 w.heap.size (.slice (some ⟨g, 0, none⟩) L c9) (cur) := by rw [← hwdz40]; exact ho.drew
              replace h7 : At wdz40 wf.heap.size (.cells (u8s (q)) 53 (0, 0)) := by rw [← hwdz40]; exact h7
              clear hwdz40
              refine y_yield 0 (some 29) (.func (.func f) #[] caps) rfl (by kernel_rfl) (by kernel_rfl) (by kernel_rfl) (fun _ _ _ h => h) rfl rfl ⟨hB, h7, ho⟩ (fun w' h' => exec_move _ rfl (.func (.func f) #[] caps) rfl) ?_
              go_frame
              refine y_yield 1 (some 30) (.agg (u8s (q))) rfl (by kernel_rfl) (by kernel_rfl) (by kernel_rfl) (fun _ _ _ h => h) rfl rfl ⟨hB, h7, ho⟩ (fun w' h' => exec_load_all 53 _ rfl wf.heap.size rfl _ _ _ h'.2.1 Try.underlying53 rfl 27 (by kernel_rfl) ((u8s_size _).trans HQb.out.len)) ?_
              go_frame
              refine y_yield 2 (some 31) (.slice (some ⟨g, 0, none⟩) L c9) rfl (by kernel_rfl) (by kernel_rfl) (by kernel_rfl) (fun _ _ _ h => h) rfl rfl ⟨hB, h7, ho⟩ (fun w' h' => exec_move _ rfl (.slice (some ⟨g, 0, none⟩) L c9) rfl) ?_
              go_frame
              refine y_yield 3 (some 32) (.int .i64 k) rfl (by kernel_rfl) (by kernel_rfl) (by kernel_rfl) (fun _ _ _ h => h) rfl rfl ⟨hB, h7, ho⟩ (fun w' h' => exec_move _ rfl (.int .i64 k) rfl) ?_
              go_frame
              refine y_yield 4 (some 33) (.pointer (some ⟨g, k * 27, none⟩)) rfl (by kernel_rfl) (by kernel_rfl) (by kernel_rfl) (fun _ _ _ h => h) rfl rfl ⟨hB, h7, ho⟩ (fun w' h' => exec_ix0 _ 53 _ _ rfl g L c9 k 27 rfl rfl Try.underlying26 (by kernel_rfl) (by omega)) ?_
              go_frame
              refine y_yield 5 (some 34) (.agg (u8s (r))) rfl (by kernel_rfl) (by kernel_rfl) (by kernel_rfl) (fun _ _ _ h => h) rfl rfl ⟨hB, h7, ho⟩ (fun w' h' => exec_load_cells 53 _ rfl g (k * 27) rfl (r) _ 27 (Own.c27u h'.2.2 HCb.out HR.out) Try.underlying53 rfl (by kernel_rfl) (HRb.out.len)) ?_
              go_frame
              refine y_two 6 10 (by kernel_rfl) rfl rfl rfl rfl (fun K' hK' => ?_) (fun K' hK' => ?_)
              · have lz43 := hB.size
                have lz44 := h7.lt
                refine wp_callv2 (some 35) rfl _ _ _ _ rfl f caps rfl Hcall.out _ _ rfl rfl _ (HUc.out q r _ hB HGQ.out HGR.out) (fun e Wz41 h => ?_)
                obtain ⟨rfl, bz42⟩ := h
                rw [Hu.out, unV_some]
                replace hB := below_after hB bz42
                replace ho := ho.below bz42
                replace h7 := h7.after bz42
                clear bz42
                refine ⟨_, rfl, ?_⟩
                refine hK' _ _ ⟨hB, h7, ho⟩ (fun _ => trivial) ?_
                clear hK' K'
                go_frame
                refine y_yield 7 (some 28) (.tuple #[.agg (u8s (one)), .bool true]) rfl (by kernel_rfl) (by kernel_rfl) (by kernel_rfl) (fun _ _ _ h => h) rfl rfl ⟨hB, h7, ho⟩ (fun w' h' => exec_move _ rfl (.tuple #[.agg (u8s (one)), .bool true]) rfl) ?_
                go_frame
                refine y_yield 8 (some 36) (.agg (u8s (one))) rfl (by kernel_rfl) (by kernel_rfl) (by kernel_rfl) (fun _ _ _ h => h) rfl rfl ⟨hB, h7, ho⟩ (fun w' h' => exec_extract _ 0 rfl #[.agg (u8s (one)), .bool true] (by rfl) _ rfl) ?_
                go_frame
                refine y_yield 9 (some 37) (.bool true) rfl (by kernel_rfl) (by kernel_rfl) (by kernel_rfl) (fun _ _ _ h => h) rfl rfl ⟨hB, h7, ho⟩ (fun w' h' => exec_extract _ 1 rfl #[.agg (u8s (one)), .bool true] (by rfl) _ rfl) ?_
                go_frame
                refine y_oper 10 (by kernel_rfl) rfl rfl (fun K' hK' => ?_)
                have lz45 := hB.size
                have lz46 := h7.lt
                have naz51 := ho.away_new
                refine wp_new (some 9) rfl (alUb_impl_Product rfl) (fun Wz47 nnz48 => ?_)
                have bz49 := nnz48.below (Below.refl _ _) (Nat.le_refl _)
                replace hB := below_after hB bz49
                replace ho := ho.below bz49
                replace h7 := h7.after bz49
                have hz50 : At Wz47 Wz41.heap.size (.cells (u8s (List.replicate 27 0)) 53 (0, 0)) := nnz48.at_
                refine hK' _ _ ⟨hB, h7, ho⟩ (fun _ => trivial) ?_
                clear hK' K' nnz48 bz49
                go_frame
                refine y_oper 11 (by kernel_rfl) rfl rfl (fun K' hK' => ?_)
                refine wp_store_bytes 53 _ _ rfl rfl Wz41.heap.size rfl (one) rfl _ _ hz50 27 (by kernel_rfl) HOb.out.1.len (by simp) (fun Wz52 pz53 => ?_)
                replace hB := pz53.below hB (by omega)
                replace ho := ho.put pz53 naz51
                replace h7 := pz53.other h7 (by omega)
                replace hz50 : At Wz52 Wz41.heap.size (.cells (u8s (one)) 53 (0, 0)) := pz53.at_
                refine hK' _ _ ⟨hB, h7, ho⟩ (fun _ => trivial) ?_
                clear hK' K' pz53
                refine y_oper 12 (by kernel_rfl) rfl rfl (fun K' hK' => ?_)
                refine wp_exec (some 10) rfl (.bool true) (exec_assign _ rfl (.bool true) rfl) ?_
                refine hK' _ _ ⟨hB, h7, ho⟩ (fun _ => trivial) ?_
                clear hK' K'
                go_frame
                refine y_done (by kernel_rfl) ?_ _
                go_upto_region 9 with (fail)
                refine wp_region_lit ?_
                refine ls_ex (some 38) (.bool true) rfl rfl (exec_move _ rfl (.bool true) rfl) ?_
                go_frame
                refine ls_ex (some 39) (.bool false) rfl rfl (exec_not _ _ rfl true rfl) ?_
                go_frame
                refine wpList_nil ?_
                go_upto_region 10 with (fail)
                refine wp_region_lit ?_
                refine ls_ex (some 40) (.slice (some ⟨g, 0, none⟩) L c9) rfl rfl (exec_move _ rfl (.slice (some ⟨g, 0, none⟩) L c9) rfl) ?_
                go_frame
                refine ls_ex (some 41) (.int .i64 i) rfl rfl (exec_move _ rfl (.int .i64 i) rfl) ?_
                go_frame
                refine ls_ex (some 42) (.agg (u8s (one))) rfl rfl (exec_load_all 53 _ rfl Wz41.heap.size rfl _ _ _ hz50 Try.underlying53 rfl 27 (by kernel_rfl) ((u8s_size _).trans HOb.out.1.len)) ?_
                go_frame
                refine ls_ex (some 43) (.pointer (some ⟨g, i * 27, none⟩)) rfl rfl (exec_ix0 _ 53 _ _ rfl g L c9 i 27 rfl rfl Try.underlying26 (by kernel_rfl) (by omega)) ?_
                go_frame
                refine ls_op rfl (fun K' hK' => ?_)
                clear h7 hz50
                have lz57 := hB.size
                refine wp_store_own 53 _ _ rfl rfl g i rfl (one) rfl ho HC27.out (by kernel_rfl) hi HOb.out.1.len (fun Wz54 hoz56 pz55 _ => ?_)
                replace hB := pz55.below hB (by omega)
                replace ho := hoz56
                refine hK' _ _ ?_
                clear hK' K' pz55 hoz56
                refine wpList_nil ?_
                go_upto_region 11 with (fail)
                refine wp_region_lit ?_
                refine ls_ex (some 44) (.slice (some ⟨g, 0, none⟩) L c9) rfl rfl (exec_move _ rfl (.slice (some ⟨g, 0, none⟩) L c9) rfl) ?_
                go_frame
                refine ls_ex (some 45) (.int .i64 k) rfl rfl (exec_move _ rfl (.int .i64 k) rfl) ?_
                go_frame
                refine ls_ex (some 46) (.int .i64 k) rfl rfl (exec_move _ rfl (.int .i64 k) rfl) ?_
                go_frame
                refine ls_ex (some 47) (.int .i64 ((k + 1 : Nat) : Int)) rfl rfl (exec_add _ _ _ _ rfl (k : Nat) 1 ((k + 1 : Nat) : Int) rfl rfl (by rw [IntWalk.i64_in _ (by omega)]; omega)) ?_
                go_frame
                refine ls_op rfl (fun K' hK' => ?_)
                have lz61 := hB.size
                refine wp_call3 (some 48) rfl 62 _ _ _ _ rfl (fun args w => by kernel_rfl) _ _ _ rfl rfl rfl _ (deleteOne_c _ HLN.out ho HSb.out hkN hN1) (fun e Wz58 h => ?_)
                obtain ⟨rfl, noz60, grz59⟩ := h
                replace hB := below_grown hB grz59 ho (by omega)
                replace ho := noz60
                clear grz59
                refine ⟨_, rfl, ?_⟩
                refine hK' _ _ ?_
                clear hK' K'
                go_frame
                refine ls_op rfl (fun K' hK' => ?_)
                have lz65 := hB.size
                refine wp_call2 (some 49) rfl 61 _ _ _ rfl (fun args w => by kernel_rfl) _ _ rfl rfl _ (deleteFunc_c _ ho HEb.out HEl.out) (fun e Wz62 h => ?_)
                obtain ⟨v6, rfl, noz64, grz63⟩ := h
                replace noz64 : Own Wz62 w.heap.size v6 (stepL cur i k one) := noz64
                obtain ⟨A6, c6, rfl⟩ := Own.rdN2 noz64 (n := N7) HN7.out
                replace hB := below_grown hB grz63 ho (by omega)
                replace ho := noz64
                refine ⟨_, rfl, ?_⟩
                refine hK' _ _ ?_
                clear hK' K' grz63
                go_frame
                refine ls_ex (some 5) (.slice A6 N7 c6) rfl rfl (exec_assign _ rfl (.slice A6 N7 c6) rfl) ?_
                go_frame
                refine wpList_nil ?_
                go_wp2_with fail
                go_roundw
                case rel => exact ⟨d9, _, _, rfl, by rw [HN7.out]; omega, by omega, HA9, HG9, hB, ho⟩
                case measure => simp [lenV]; omega
              · have lz66 := hB.size
                have lz67 := h7.lt
                have naz72 := ho.away_new
                refine wp_new (some 9) rfl (alUb_impl_Product rfl) (fun Wz68 nnz69 => ?_)
                have bz70 := nnz69.below (Below.refl _ _) (Nat.le_refl _)
                replace hB := below_after hB bz70
                replace ho := ho.below bz70
                replace h7 := h7.after bz70
                have hz71 : At Wz68 wdz40.heap.size (.cells (u8s (List.replicate 27 0)) 53 (0, 0)) := nnz69.at_
                refine hK' _ _ ⟨hB, h7, ho⟩ (fun _ => trivial) ?_
                clear hK' K' nnz69 bz70
                go_frame
                refine y_oper 6 (by kernel_rfl) rfl rfl (fun K' hK' => ?_)
                have lz75 := hB.size
                have lz76 := h7.lt
                have lz77 := hz71.lt
                refine wp_callv2 (some 35) rfl _ _ _ _ rfl f caps rfl Hcall.out _ _ rfl rfl _ (HUc.out q r _ hB HGQ.out HGR.out) (fun e Wz73 h => ?_)
                obtain ⟨rfl, bz74⟩ := h
                rw [Hu.out, unV_some]
                replace hB := below_after hB bz74
                replace ho := ho.below bz74
                replace h7 := h7.after bz74
                replace hz71 := hz71.after bz74
                clear bz74
                refine ⟨_, rfl, ?_⟩
                refine hK' _ _ ⟨hB, h7, ho⟩ (fun _ => trivial) ?_
                clear hK' K'
                go_frame
                refine y_yield 7 (some 28) (.tuple #[.agg (u8s (one)), .bool true]) rfl (by kernel_rfl) (by kernel_rfl) (by kernel_rfl) (fun _ _ _ h => h) rfl rfl ⟨hB, h7, ho⟩ (fun w' h' => exec_move _ rfl (.tuple #[.agg (u8s (one)), .bool true]) rfl) ?_
                go_frame
                refine y_yield 8 (some 36) (.agg (u8s (one))) rfl (by kernel_rfl) (by kernel_rfl) (by kernel_rfl) (fun _ _ _ h => h) rfl rfl ⟨hB, h7, ho⟩ (fun w' h' => exec_extract _ 0 rfl #[.agg (u8s (one)), .bool true] (by rfl) _ rfl) ?_
                go_frame
                refine y_yield 9 (some 37) (.bool true) rfl (by kernel_rfl) (by kernel_rfl) (by kernel_rfl) (fun _ _ _ h => h) rfl rfl ⟨hB, h7, ho⟩ (fun w' h' => exec_extract _ 1 rfl #[.agg (u8s (one)), .bool true] (by rfl) _ rfl) ?_
                go_frame
                refine y_oper 11 (by kernel_rfl) rfl rfl (fun K' hK' => ?_)
                refine wp_store_bytes 53 _ _ rfl rfl wdz40.heap.size rfl (one) rfl _ _ hz71 27 (by kernel_rfl) HOb.out.1.len (by simp) (fun Wz78 pz79 => ?_)
                replace hB := pz79.below hB (by omega)
                replace ho := ho.put pz79 naz72
                replace h7 := pz79.other h7 (by omega)
                replace hz71 : At Wz78 wdz40.heap.size (.cells (u8s (one)) 53 (0, 0)) := pz79.at_
                refine hK' _ _ ⟨hB, h7, ho⟩ (fun _ => trivial) ?_
                clear hK' K' pz79
                refine y_oper 12 (by kernel_rfl) rfl rfl (fun K' hK' => ?_)
                refine wp_exec (some 10) rfl (.bool true) (exec_assign _ rfl (.bool true) rfl) ?_
                refine hK' _ _ ⟨hB, h7, ho⟩ (fun _ => trivial) ?_
                clear hK' K'
                go_frame
                refine y_done (by kernel_rfl) ?_ _
                go_upto_region 9 with (fail)
                refine wp_region_lit ?_
                refine ls_ex (some 38) (.bool true) rfl rfl (exec_move _ rfl (.bool true) rfl) ?_
                go_frame
                refine ls_ex (some 39) (.bool false) rfl rfl (exec_not _ _ rfl true rfl) ?_
                go_frame
                refine wpList_nil ?_
                go_upto_region 10 with (fail)
                refine wp_region_lit ?_
                refine ls_ex (some 40) (.slice (some ⟨g, 0, none⟩) L c9) rfl rfl (exec_move _ rfl (.slice (some ⟨g, 0, none⟩) L c9) rfl) ?_
                go_frame
                refine ls_ex (some 41) (.int .i64 i) rfl rfl (exec_move _ rfl (.int .i64 i) rfl) ?_
                go_frame
                refine ls_ex (some 42) (.agg (u8s (one))) rfl rfl (exec_load_all 53 _ rfl wdz40.heap.size rfl _ _ _ hz71 Try.underlying53 rfl 27 (by kernel_rfl) ((u8s_size _).trans HOb.out.1.len)) ?_
                go_frame
                refine ls_ex (some 43) (.pointer (some ⟨g, i * 27, none⟩)) rfl rfl (exec_ix0 _ 53 _ _ rfl g L c9 i 27 rfl rfl Try.underlying26 (by kernel_rfl) (by omega)) ?_
                go_frame
                refine ls_op rfl (fun K' hK' => ?_)
                clear h7 hz71
                have lz83 := hB.size
                refine wp_store_own 53 _ _ rfl rfl g i rfl (one) rfl ho HC27.out (by kernel_rfl) hi HOb.out.1.len (fun Wz80 hoz82 pz81 _ => ?_)
                replace hB := pz81.below hB (by omega)
                replace ho := hoz82
                refine hK' _ _ ?_
                clear hK' K' pz81 hoz82
                refine wpList_nil ?_
                go_upto_region 11 with (fail)
                refine wp_region_lit ?_
                refine ls_ex (some 44) (.slice (some ⟨g, 0, none⟩) L c9) rfl rfl (exec_move _ rfl (.slice (some ⟨g, 0, none⟩) L c9) rfl) ?_
                go_frame
                refine ls_ex (some 45) (.int .i64 k) rfl rfl (exec_move _ rfl (.int .i64 k) rfl) ?_
                go_frame
                refine ls_ex (some 46) (.int .i64 k) rfl rfl (exec_move _ rfl (.int .i64 k) rfl) ?_
                go_frame
                refine ls_ex (some 47) (.int .i64 ((k + 1 : Nat) : Int)) rfl rfl (exec_add _ _ _ _ rfl (k : Nat) 1 ((k + 1 : Nat) : Int) rfl rfl (by rw [IntWalk.i64_in _ (by omega)]; omega)) ?_
                go_frame
                refine ls_op rfl (fun K' hK' => ?_)
                have lz87 := hB.size
                refine wp_call3 (some 48) rfl 62 _ _ _ _ rfl (fun args w => by kernel_rfl) _ _ _ rfl rfl rfl _ (deleteOne_c _ HLN.out ho HSb.out hkN hN1) (fun e Wz84 h => ?_)
                obtain ⟨rfl, noz86, grz85⟩ := h
                replace hB := below_grown hB grz85 ho (by omega)
                replace ho := noz86
                clear grz85
                refine ⟨_, rfl, ?_⟩
                refine hK' _ _ ?_
                clear hK' K'
                go_frame
                refine ls_op rfl (fun K' hK' => ?_)
                have lz91 := hB.size
                refine wp_call2 (some 49) rfl 61 _ _ _ rfl (fun args w => by kernel_rfl) _ _ rfl rfl _ (deleteFunc_c _ ho HEb.out HEl.out) (fun e Wz88 h => ?_)
                obtain ⟨v6, rfl, noz90, grz89⟩ := h
                replace noz90 : Own Wz88 w.heap.size v6 (stepL cur i k one) := noz90
                obtain ⟨A6, c6, rfl⟩ := Own.rdN2 noz90 (n := N7) HN7.out
                replace hB := below_grown hB grz89 ho (by omega)
                replace ho := noz90
                refine ⟨_, rfl, ?_⟩
                refine hK' _ _ ?_
                clear hK' K' grz89
                go_frame
                refine ls_ex (some 5) (.slice A6 N7 c6) rfl rfl (exec_assign _ rfl (.slice A6 N7 c6) rfl) ?_
                go_frame
                refine wpList_nil ?_
                go_wp2_with fail
                go_roundw
                case rel => exact ⟨d9, _, _, rfl, by rw [HN7.out]; omega, by omega, HA9, HG9, hB, ho⟩
                case measure => simp [lenV]; omega
          · have HNn : Hid (unI un cur (L - (i + 1)) = unN un cur) := Lib.hid (by have h9 := HK.out; rw [show L - k = 0 by omega] at h9; exact h9)
            go_upto_region 6 with (fail)
            refine wp_region_lit ?_
            refine ls_ex (some 22) (.int .i64 k) rfl rfl (exec_move _ rfl (.int .i64 k) rfl) ?_
            go_frame
            refine ls_ex (some 23) (.slice (some ⟨g, 0, none⟩) L c9) rfl rfl (exec_move _ rfl (.slice (some ⟨g, 0, none⟩) L c9) rfl) ?_
            go_frame
            refine ls_ex (some 24) (.int .i64 L) rfl rfl (exec_len _ 26 53 rfl ((some ⟨g, 0, none⟩)) L c9 rfl Try.underlying26) ?_
            go_frame
            refine ls_ex (some 25) (.bool false) rfl rfl (exec_lss _ _ _ _ rfl k L rfl rfl false (decide_eq_false (by omega))) ?_
            go_frame
            refine wpList_nil ?_
            go_upto_region 12 with (fail)
            refine wp_region_lit ?_
            refine ls_ex (some 50) (.int .i64 (i + 1)) rfl rfl (exec_add _ _ _ _ rfl i 1 (i + 1) rfl rfl (IntWalk.i64_in _ (by omega))) ?_
            go_frame
            refine ls_ex (some 15) (.int .i64 (i + 1)) rfl rfl (exec_move _ rfl (.int .i64 (i + 1)) rfl) ?_
            go_frame
            refine wpList_nil ?_
            go_wp2_with fail
            go_roundw
            case rel => exact ⟨i + 1, by omega, by go_num, rfl, HNn, hB, ho⟩
            case measure => simp [intOf]; omega
      · have HZ : Hid (unN un cur = none) := Lib.hid (by have h9 := HN.out; rw [show L - i = 0 by omega] at h9; exact h9.symm)
        go_upto_region 3 with (fail)
        refine wp_region_lit ?_
        refine ls_ex (some 16) (.bool false) rfl rfl (exec_lss _ _ _ _ rfl i L rfl rfl false (decide_eq_false (by omega))) ?_
        go_frame
        refine wpList_nil ?_
        go_upto_region 13 with (fail)
        refine wp_region_lit ?_
        refine ls_ex (some 51) (.slice A9 L c9) rfl rfl (exec_move _ rfl (.slice A9 L c9) rfl) ?_
        go_frame
        refine ls_ex (some 4) (.slice A9 L c9) rfl rfl (exec_assign _ rfl (.slice A9 L c9) rfl) ?_
        go_frame
        refine wpList_nil ?_
        go_wp2_with fail
        rw [Exit.noGoto_ret]
        go_ret
        exact ⟨_, rfl, by rw [← HA.out, unA_none HZ.out]; exact ho, hB⟩
end Go.Proofs.Ytemkhlokpinecaa
