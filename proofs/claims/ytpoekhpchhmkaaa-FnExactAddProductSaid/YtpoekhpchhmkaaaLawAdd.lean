/-
  laws.FnExactAddProduct: the walk: it returns true and writes nothing that was there.
-/
import Derived.Test.YtpoekhpchhmkaaaLK1
import Derived.Test.YtpoekhpchhmkaaaAdd3
namespace Go.Proofs.Ytpoekhpchhmkaaa
open Go.RowKit
set_option maxRecDepth 100000
theorem call_specAddProduct (args : Array Value) (w : World) : (callFunc 8 args).run Try.prog w = .ok (.enter 8 args) w := by kernel_rfl
theorem call_implAddProduct (args : Array Value) (w : World) : (callFunc 11 args).run Try.prog w = .ok (.enter 11 args) w := by kernel_rfl
set_option maxHeartbeats 3200000 in
theorem lawAddProduct_walk (p n m k : Int) (A : Option Addr) (c : Nat) (qs : List (List Nat)) (q : List Nat) (rp rn rm rk code : Int) (rs : List (List Nat)) (w : World) (hr : Rd w A qs) (hn : qs.length ≤ 9223372036854775807) (hq : Bytes 27 q) (hrb : ∀ r ∈ rs, Bytes 27 r) (hrl : rs.length ≤ 1048576)
    (hS : qs.length ≤ 1048576 → ∀ (g : Nat) (w : World), Rd w (some ⟨g, 0, none⟩) qs → Calls Try.prog 8 #[.agg #[.int .i64 p, .int .i64 n, .int .i64 m, .int .i64 k, .slice (some ⟨g, 0, none⟩) qs.length qs.length], .agg (u8s q)] w (ResS w rp rn rm rk rs code))
    (hI : qs.length ≤ 1048576 → ∀ (g : Nat) (w : World), Rd w (some ⟨g, 0, none⟩) qs → Calls Try.prog 11 #[.agg #[.int .i64 p, .int .i64 n, .int .i64 m, .int .i64 k, .slice (some ⟨g, 0, none⟩) qs.length qs.length], .agg (u8s q)] w (ResS w rp rn rm rk rs code)) :
    Calls Try.prog 3 #[.agg #[.int .i64 p, .int .i64 n, .int .i64 m, .int .i64 k, .slice A qs.length c], .agg (u8s q)] w fun e w' => e = .returned (.bool true) ∧ Below w.heap.size w w' := by
  by_cases hbig : (1048576 : Int) < (qs.length : Int)
  · have HS := Lib.hid (fun w => szScheme_c p n m k A qs.length c 1048576 w (by omega) hn (by omega))
    simp only [if_pos hbig] at HS
    go_enter Try.func3, Try.ntmps3
    go_wp2_with (first | (refine wpList_abs2 ?_; intro W0 hsz0 hB0 ha0 hq0) | (refine wpList_load_all rfl 24 _ rfl w.heap.size rfl _ _ _ (by exact ha0) Try.underlying24 rfl 5 (by kernel_rfl) rfl ?_))
    refine (HS.out _).mono ?_
    rintro e w1 ⟨rfl, b1⟩
    have hB := below_after hB0 b1
    go_wp2_with fail
    go_ret
    exact ⟨rfl, hB⟩
  · have hlen : qs.length ≤ 1048576 := by omega
    have HS := Lib.hid (fun w => szScheme_c p n m k A qs.length c 1048576 w (by omega) hn (by omega))
    simp only [if_neg hbig] at HS
    have h0' : ¬ (1048576 : Int) - (qs.length : Int) < 0 := by omega
    have HSp := Lib.hid (hS hlen)
    have HIm := Lib.hid (hI hlen)
    have Hrb := Lib.hid hrb
    have hcode : (code != code) = false := by simp
    clear hbig hS hI hrb
    go_enter Try.func3, Try.ntmps3
    go_wp2_with (first | (refine wpList_abs2 ?_; intro W0 hsz0 hB0 ha0 hq0) | (refine wpList_load_all rfl 24 _ rfl w.heap.size rfl _ _ _ (by exact ha0) Try.underlying24 rfl 5 (by kernel_rfl) rfl ?_))
    refine (HS.out _).mono ?_
    rintro e w1 ⟨rfl, b1⟩
    have hK : KA w [(w.heap.size, .cells #[.int .i64 p, .int .i64 n, .int .i64 m, .int .i64 k, .slice A qs.length c] 24 (0, 0)), (w.heap.size + 1, .cells (u8s q) 27 (0, 0))] w1 := KA.after ⟨hB0, by intro b hb; simp only [List.mem_cons, List.not_mem_nil, or_false] at hb; rcases hb with rfl | rfl; exact ha0; exact hq0⟩ b1
    clear b1 HS ha0 hq0 hB0 hsz0
    go_upto_region 5 with (fail)
    go_cut [6, 7] from 21 to 28 (fun s0 s1 wx => ∃ (g0 : Nat) (A0 : Option Addr) (c0 : Nat), s0 = .pointer (some ⟨g0, 0, none⟩) ∧ s1 = .int .i64 code ∧ At wx g0 (.cells #[.int .i64 rp, .int .i64 rn, .int .i64 rm, .int .i64 rk, .slice A0 rs.length c0] 31 (0, 0)) ∧ Own wx w.heap.size (.slice A0 rs.length c0) rs ∧ KA w [(w.heap.size, .cells #[.int .i64 p, .int .i64 n, .int .i64 m, .int .i64 k, .slice A qs.length c] 24 (0, 0)), (w.heap.size + 1, .cells (u8s q) 27 (0, 0))] wx)
    case first =>
      go_wp2_with fail
      refine wp_region_held (S := fun w' => ∀ b ∈ ([(w.heap.size, .cells #[.int .i64 p, .int .i64 n, .int .i64 m, .int .i64 k, .slice A qs.length c] 24 (0, 0)), (w.heap.size + 1, .cells (u8s q) 27 (0, 0))] : List (Nat × Obj)), At w' b.1 b.2) (by kernel_rfl) ?_
      change wpAnyH _ _ _ _ _ _ _ _ (World.drew _)
      replace hK := hK.drew
      generalize World.drew _ = wd at *
      refine held_yield 0 (some 22) (.agg #[.int .i64 p, .int .i64 n, .int .i64 m, .int .i64 k, .slice A qs.length c]) rfl (by kernel_rfl) (by kernel_rfl) (by kernel_rfl) (fun _ _ _ h => h) rfl rfl (hK.box) (fun w' h' => exec_load_all 24 _ rfl w.heap.size rfl _ _ _ (h' (w.heap.size, .cells #[.int .i64 p, .int .i64 n, .int .i64 m, .int .i64 k, .slice A qs.length c] 24 (0, 0)) (by simp)) Try.underlying24 rfl 5 (by kernel_rfl) rfl) ?_
      go_frame
      refine held_yield 2 (some 24) (.agg (u8s q)) rfl (by kernel_rfl) (by kernel_rfl) (by kernel_rfl) (fun _ _ _ h => h) rfl rfl (hK.box) (fun w' h' => exec_load_all 27 _ rfl (w.heap.size + 1) rfl _ _ _ (h' (w.heap.size + 1, .cells (u8s q) 27 (0, 0)) (by simp)) Try.underlying27 rfl 27 (by kernel_rfl) ((u8s_size _).trans hq.len)) ?_
      go_frame
      refine held_two 1 8 (by kernel_rfl) rfl rfl rfl rfl (fun K' hK' => ?_) (fun K' hK' => ?_)
      · refine wp_call1 (some 23) rfl 9 _ _ rfl call_toScheme (.agg #[.int .i64 p, .int .i64 n, .int .i64 m, .int .i64 k, .slice A qs.length c]) rfl _ (toScheme_c p n m k A c qs _ (hr.keep hK.below) hlen) (fun e w6 h => ?_)
        obtain ⟨gs, rfl, hgs, hAs, b6⟩ := h
        replace hK := hK.after b6
        refine ⟨_, rfl, hK' _ _ (hK.box) ?_⟩
        clear hK' K' b6
        go_frame
        refine held_two 3 8 (by kernel_rfl) rfl rfl rfl rfl (fun K' hK' => ?_) (fun K' hK' => ?_)
        · refine wp_call1 (some 25) rfl 10 _ _ rfl call_toProduct (.agg (u8s q)) rfl _ (toProduct_c q hq _) (fun e w6 h => ?_)
          obtain ⟨rfl, b6⟩ := h
          replace hK := hK.after b6
          replace hAs := hAs.after b6
          refine ⟨_, rfl, hK' _ _ (hK.box) ?_⟩
          clear hK' K' b6
          go_frame
          refine held_two 4 8 (by kernel_rfl) rfl rfl rfl rfl (fun K' hK' => ?_) (fun K' hK' => ?_)
          · refine wp_call2 (some 26) rfl 8 _ _ _ rfl call_specAddProduct _ _ rfl rfl _ (HSp.out _ _ (Rd.of_at hAs hr.good)) (fun e w6 h => ?_)
            obtain ⟨v0, rfl, o0, b6⟩ := h
            replace o0 := o0.mono hK.below.size
            replace hK := hK.after b6
            replace hAs := hAs.after b6
            obtain ⟨A0, c0, rfl, _⟩ := o0.rd Hrb.out
            refine ⟨_, rfl, hK' _ _ (hK.box) ?_⟩
            clear hK' K' b6
            go_frame
            refine held_yield 5 (some 21) (.tuple #[.agg #[.int .i64 rp, .int .i64 rn, .int .i64 rm, .int .i64 rk, .slice A0 rs.length c0], .int .i64 code]) rfl (by kernel_rfl) (by kernel_rfl) (by kernel_rfl) (fun _ _ _ h => h) rfl rfl (hK.box) (fun w' _ => exec_move _ rfl (.tuple #[.agg #[.int .i64 rp, .int .i64 rn, .int .i64 rm, .int .i64 rk, .slice A0 rs.length c0], .int .i64 code]) rfl) ?_
            go_frame
            refine held_yield 6 (some 27) (.agg #[.int .i64 rp, .int .i64 rn, .int .i64 rm, .int .i64 rk, .slice A0 rs.length c0]) rfl (by kernel_rfl) (by kernel_rfl) (by kernel_rfl) (fun _ _ _ h => h) rfl rfl (hK.box) (fun w' _ => exec_extract _ 0 rfl #[.agg #[.int .i64 rp, .int .i64 rn, .int .i64 rm, .int .i64 rk, .slice A0 rs.length c0], .int .i64 code] rfl (.agg #[.int .i64 rp, .int .i64 rn, .int .i64 rm, .int .i64 rk, .slice A0 rs.length c0]) rfl) ?_
            go_frame
            refine held_yield 7 (some 28) (.int .i64 code) rfl (by kernel_rfl) (by kernel_rfl) (by kernel_rfl) (fun _ _ _ h => h) rfl rfl (hK.box) (fun w' _ => exec_extract _ 1 rfl #[.agg #[.int .i64 rp, .int .i64 rn, .int .i64 rm, .int .i64 rk, .slice A0 rs.length c0], .int .i64 code] rfl (.int .i64 code) rfl) ?_
            go_frame
            refine held_oper 8 (by kernel_rfl) rfl rfl (fun K' hK' => ?_)
            refine wp_new (some 6) rfl (exec_alloc_scheme rfl) (fun wn nn => ?_)
            have bn := nn.below (Below.refl _ _) (Nat.le_refl _)
            have yb := hK.lt
            have yw := hK.below.size
            replace hK := hK.after bn
            replace hAs := hAs.after bn
            replace o0 := o0.below bn
            have zb := nn.at_
            refine hK' _ _ (hK.box) ?_
            clear hK' K' bn nn
            go_frame
            refine held_oper 9 (by kernel_rfl) rfl rfl (fun K' hK' => ?_)
            refine wp_store_all 31 _ _ rfl rfl _ rfl _ rfl _ _ zb 5 (by kernel_rfl) rfl rfl (one5 _ _ _ _ _ _ _) (fun wp pp => ?_)
            have offv := o0.off zb (by decide)
            replace o0 := o0.put pp offv
            replace hK := hK.put pp (by omega) (fun b hb => Nat.ne_of_lt (yb b hb))
            replace zb := pp.at_
            refine hK' _ _ (hK.box) ?_
            clear hK' K' pp
            refine held_exec 10 (some 7) (.int .i64 code) (by kernel_rfl) rfl rfl rfl (exec_assign _ rfl (.int .i64 code) rfl) (hK.box) ?_
            go_frame
            refine wpAnyH_done (by kernel_rfl) ?_ _
            go_wp2_with fail
            go_meet
            exact ⟨_, _, _, rfl, rfl, zb, o0, hK⟩
          · refine wp_new (some 6) rfl (exec_alloc_scheme rfl) (fun wn nn => ?_)
            have bn := nn.below (Below.refl _ _) (Nat.le_refl _)
            have yb := hK.lt
            have yw := hK.below.size
            replace hK := hK.after bn
            replace hAs := hAs.after bn
            have zb := nn.at_
            refine hK' _ _ (hK.box) ?_
            clear hK' K' bn nn
            go_frame
            refine held_oper 4 (by kernel_rfl) rfl rfl (fun K' hK' => ?_)
            refine wp_call2 (some 26) rfl 8 _ _ _ rfl call_specAddProduct _ _ rfl rfl _ (HSp.out _ _ (Rd.of_at hAs hr.good)) (fun e w6 h => ?_)
            obtain ⟨v0, rfl, o0, b6⟩ := h
            replace o0 := o0.mono hK.below.size
            replace hK := hK.after b6
            replace hAs := hAs.after b6
            replace zb := zb.after b6
            obtain ⟨A0, c0, rfl, _⟩ := o0.rd Hrb.out
            refine ⟨_, rfl, hK' _ _ (hK.box) ?_⟩
            clear hK' K' b6
            go_frame
            refine held_yield 5 (some 21) (.tuple #[.agg #[.int .i64 rp, .int .i64 rn, .int .i64 rm, .int .i64 rk, .slice A0 rs.length c0], .int .i64 code]) rfl (by kernel_rfl) (by kernel_rfl) (by kernel_rfl) (fun _ _ _ h => h) rfl rfl (hK.box) (fun w' _ => exec_move _ rfl (.tuple #[.agg #[.int .i64 rp, .int .i64 rn, .int .i64 rm, .int .i64 rk, .slice A0 rs.length c0], .int .i64 code]) rfl) ?_
            go_frame
            refine held_yield 6 (some 27) (.agg #[.int .i64 rp, .int .i64 rn, .int .i64 rm, .int .i64 rk, .slice A0 rs.length c0]) rfl (by kernel_rfl) (by kernel_rfl) (by kernel_rfl) (fun _ _ _ h => h) rfl rfl (hK.box) (fun w' _ => exec_extract _ 0 rfl #[.agg #[.int .i64 rp, .int .i64 rn, .int .i64 rm, .int .i64 rk, .slice A0 rs.length c0], .int .i64 code] rfl (.agg #[.int .i64 rp, .int .i64 rn, .int .i64 rm, .int .i64 rk, .slice A0 rs.length c0]) rfl) ?_
            go_frame
            refine held_yield 7 (some 28) (.int .i64 code) rfl (by kernel_rfl) (by kernel_rfl) (by kernel_rfl) (fun _ _ _ h => h) rfl rfl (hK.box) (fun w' _ => exec_extract _ 1 rfl #[.agg #[.int .i64 rp, .int .i64 rn, .int .i64 rm, .int .i64 rk, .slice A0 rs.length c0], .int .i64 code] rfl (.int .i64 code) rfl) ?_
            go_frame
            refine held_oper 9 (by kernel_rfl) rfl rfl (fun K' hK' => ?_)
            refine wp_store_all 31 _ _ rfl rfl _ rfl _ rfl _ _ zb 5 (by kernel_rfl) rfl rfl (one5 _ _ _ _ _ _ _) (fun wp pp => ?_)
            have offv := o0.off zb (by decide)
            replace o0 := o0.put pp offv
            replace hK := hK.put pp (by omega) (fun b hb => Nat.ne_of_lt (yb b hb))
            replace zb := pp.at_
            refine hK' _ _ (hK.box) ?_
            clear hK' K' pp
            refine held_exec 10 (some 7) (.int .i64 code) (by kernel_rfl) rfl rfl rfl (exec_assign _ rfl (.int .i64 code) rfl) (hK.box) ?_
            go_frame
            refine wpAnyH_done (by kernel_rfl) ?_ _
            go_wp2_with fail
            go_meet
            exact ⟨_, _, _, rfl, rfl, zb, o0, hK⟩
        · refine wp_new (some 6) rfl (exec_alloc_scheme rfl) (fun wn nn => ?_)
          have bn := nn.below (Below.refl _ _) (Nat.le_refl _)
          have yb := hK.lt
          have yw := hK.below.size
          replace hK := hK.after bn
          replace hAs := hAs.after bn
          have zb := nn.at_
          refine hK' _ _ (hK.box) ?_
          clear hK' K' bn nn
          go_frame
          refine held_oper 3 (by kernel_rfl) rfl rfl (fun K' hK' => ?_)
          refine wp_call1 (some 25) rfl 10 _ _ rfl call_toProduct (.agg (u8s q)) rfl _ (toProduct_c q hq _) (fun e w6 h => ?_)
          obtain ⟨rfl, b6⟩ := h
          replace hK := hK.after b6
          replace hAs := hAs.after b6
          replace zb := zb.after b6
          refine ⟨_, rfl, hK' _ _ (hK.box) ?_⟩
          clear hK' K' b6
          go_frame
          refine held_oper 4 (by kernel_rfl) rfl rfl (fun K' hK' => ?_)
          refine wp_call2 (some 26) rfl 8 _ _ _ rfl call_specAddProduct _ _ rfl rfl _ (HSp.out _ _ (Rd.of_at hAs hr.good)) (fun e w6 h => ?_)
          obtain ⟨v0, rfl, o0, b6⟩ := h
          replace o0 := o0.mono hK.below.size
          replace hK := hK.after b6
          replace hAs := hAs.after b6
          replace zb := zb.after b6
          obtain ⟨A0, c0, rfl, _⟩ := o0.rd Hrb.out
          refine ⟨_, rfl, hK' _ _ (hK.box) ?_⟩
          clear hK' K' b6
          go_frame
          refine held_yield 5 (some 21) (.tuple #[.agg #[.int .i64 rp, .int .i64 rn, .int .i64 rm, .int .i64 rk, .slice A0 rs.length c0], .int .i64 code]) rfl (by kernel_rfl) (by kernel_rfl) (by kernel_rfl) (fun _ _ _ h => h) rfl rfl (hK.box) (fun w' _ => exec_move _ rfl (.tuple #[.agg #[.int .i64 rp, .int .i64 rn, .int .i64 rm, .int .i64 rk, .slice A0 rs.length c0], .int .i64 code]) rfl) ?_
          go_frame
          refine held_yield 6 (some 27) (.agg #[.int .i64 rp, .int .i64 rn, .int .i64 rm, .int .i64 rk, .slice A0 rs.length c0]) rfl (by kernel_rfl) (by kernel_rfl) (by kernel_rfl) (fun _ _ _ h => h) rfl rfl (hK.box) (fun w' _ => exec_extract _ 0 rfl #[.agg #[.int .i64 rp, .int .i64 rn, .int .i64 rm, .int .i64 rk, .slice A0 rs.length c0], .int .i64 code] rfl (.agg #[.int .i64 rp, .int .i64 rn, .int .i64 rm, .int .i64 rk, .slice A0 rs.length c0]) rfl) ?_
          go_frame
          refine held_yield 7 (some 28) (.int .i64 code) rfl (by kernel_rfl) (by kernel_rfl) (by kernel_rfl) (fun _ _ _ h => h) rfl rfl (hK.box) (fun w' _ => exec_extract _ 1 rfl #[.agg #[.int .i64 rp, .int .i64 rn, .int .i64 rm, .int .i64 rk, .slice A0 rs.length c0], .int .i64 code] rfl (.int .i64 code) rfl) ?_
          go_frame
          refine held_oper 9 (by kernel_rfl) rfl rfl (fun K' hK' => ?_)
          refine wp_store_all 31 _ _ rfl rfl _ rfl _ rfl _ _ zb 5 (by kernel_rfl) rfl rfl (one5 _ _ _ _ _ _ _) (fun wp pp => ?_)
          have offv := o0.off zb (by decide)
          replace o0 := o0.put pp offv
          replace hK := hK.put pp (by omega) (fun b hb => Nat.ne_of_lt (yb b hb))
          replace zb := pp.at_
          refine hK' _ _ (hK.box) ?_
          clear hK' K' pp
          refine held_exec 10 (some 7) (.int .i64 code) (by kernel_rfl) rfl rfl rfl (exec_assign _ rfl (.int .i64 code) rfl) (hK.box) ?_
          go_frame
          refine wpAnyH_done (by kernel_rfl) ?_ _
          go_wp2_with fail
          go_meet
          exact ⟨_, _, _, rfl, rfl, zb, o0, hK⟩
      · refine wp_new (some 6) rfl (exec_alloc_scheme rfl) (fun wn nn => ?_)
        have bn := nn.below (Below.refl _ _) (Nat.le_refl _)
        have yb := hK.lt
        have yw := hK.below.size
        replace hK := hK.after bn
        have zb := nn.at_
        refine hK' _ _ (hK.box) ?_
        clear hK' K' bn nn
        go_frame
        refine held_oper 1 (by kernel_rfl) rfl rfl (fun K' hK' => ?_)
        refine wp_call1 (some 23) rfl 9 _ _ rfl call_toScheme (.agg #[.int .i64 p, .int .i64 n, .int .i64 m, .int .i64 k, .slice A qs.length c]) rfl _ (toScheme_c p n m k A c qs _ (hr.keep hK.below) hlen) (fun e w6 h => ?_)
        obtain ⟨gs, rfl, hgs, hAs, b6⟩ := h
        replace hK := hK.after b6
        replace zb := zb.after b6
        refine ⟨_, rfl, hK' _ _ (hK.box) ?_⟩
        clear hK' K' b6
        go_frame
        refine held_oper 3 (by kernel_rfl) rfl rfl (fun K' hK' => ?_)
        refine wp_call1 (some 25) rfl 10 _ _ rfl call_toProduct (.agg (u8s q)) rfl _ (toProduct_c q hq _) (fun e w6 h => ?_)
        obtain ⟨rfl, b6⟩ := h
        replace hK := hK.after b6
        replace zb := zb.after b6
        replace hAs := hAs.after b6
        refine ⟨_, rfl, hK' _ _ (hK.box) ?_⟩
        clear hK' K' b6
        go_frame
        refine held_oper 4 (by kernel_rfl) rfl rfl (fun K' hK' => ?_)
        refine wp_call2 (some 26) rfl 8 _ _ _ rfl call_specAddProduct _ _ rfl rfl _ (HSp.out _ _ (Rd.of_at hAs hr.good)) (fun e w6 h => ?_)
        obtain ⟨v0, rfl, o0, b6⟩ := h
        replace o0 := o0.mono hK.below.size
        replace hK := hK.after b6
        replace zb := zb.after b6
        replace hAs := hAs.after b6
        obtain ⟨A0, c0, rfl, _⟩ := o0.rd Hrb.out
        refine ⟨_, rfl, hK' _ _ (hK.box) ?_⟩
        clear hK' K' b6
        go_frame
        refine held_yield 5 (some 21) (.tuple #[.agg #[.int .i64 rp, .int .i64 rn, .int .i64 rm, .int .i64 rk, .slice A0 rs.length c0], .int .i64 code]) rfl (by kernel_rfl) (by kernel_rfl) (by kernel_rfl) (fun _ _ _ h => h) rfl rfl (hK.box) (fun w' _ => exec_move _ rfl (.tuple #[.agg #[.int .i64 rp, .int .i64 rn, .int .i64 rm, .int .i64 rk, .slice A0 rs.length c0], .int .i64 code]) rfl) ?_
        go_frame
        refine held_yield 6 (some 27) (.agg #[.int .i64 rp, .int .i64 rn, .int .i64 rm, .int .i64 rk, .slice A0 rs.length c0]) rfl (by kernel_rfl) (by kernel_rfl) (by kernel_rfl) (fun _ _ _ h => h) rfl rfl (hK.box) (fun w' _ => exec_extract _ 0 rfl #[.agg #[.int .i64 rp, .int .i64 rn, .int .i64 rm, .int .i64 rk, .slice A0 rs.length c0], .int .i64 code] rfl (.agg #[.int .i64 rp, .int .i64 rn, .int .i64 rm, .int .i64 rk, .slice A0 rs.length c0]) rfl) ?_
        go_frame
        refine held_yield 7 (some 28) (.int .i64 code) rfl (by kernel_rfl) (by kernel_rfl) (by kernel_rfl) (fun _ _ _ h => h) rfl rfl (hK.box) (fun w' _ => exec_extract _ 1 rfl #[.agg #[.int .i64 rp, .int .i64 rn, .int .i64 rm, .int .i64 rk, .slice A0 rs.length c0], .int .i64 code] rfl (.int .i64 code) rfl) ?_
        go_frame
        refine held_oper 9 (by kernel_rfl) rfl rfl (fun K' hK' => ?_)
        refine wp_store_all 31 _ _ rfl rfl _ rfl _ rfl _ _ zb 5 (by kernel_rfl) rfl rfl (one5 _ _ _ _ _ _ _) (fun wp pp => ?_)
        have offv := o0.off zb (by decide)
        replace o0 := o0.put pp offv
        replace hK := hK.put pp (by omega) (fun b hb => Nat.ne_of_lt (yb b hb))
        replace zb := pp.at_
        refine hK' _ _ (hK.box) ?_
        clear hK' K' pp
        refine held_exec 10 (some 7) (.int .i64 code) (by kernel_rfl) rfl rfl rfl (exec_assign _ rfl (.int .i64 code) rfl) (hK.box) ?_
        go_frame
        refine wpAnyH_done (by kernel_rfl) ?_ _
        go_wp2_with fail
        go_meet
        exact ⟨_, _, _, rfl, rfl, zb, o0, hK⟩
    case rest =>
      clear hK
      obtain ⟨g0, A0, c0, rfl, rfl, h6, o0, hK⟩ := hcut
      go_wp2_with (refine wpList_load_all rfl 24 _ rfl w.heap.size rfl _ _ _ (by exact (hK.box (w.heap.size, .cells #[.int .i64 p, .int .i64 n, .int .i64 m, .int .i64 k, .slice A qs.length c] 24 (0, 0)) (by simp))) Try.underlying24 rfl 5 (by kernel_rfl) rfl ?_)
      refine (toScheme_c p n m k A c qs _ (hr.keep hK.below) hlen).mono ?_
      rintro e w4 ⟨gx, rfl, hgx, hAx, b4⟩
      have hl3 := hK.below.size
      have ox0 := Own.of_at hAx hr.len hgx hlen
      have n0x := Own.ne o0 ox0 (Nat.le_refl _)
      have ox := ox0.mono hl3
      have bx := below1 w4 (.cells #[.int .i64 p, .int .i64 n, .int .i64 m, .int .i64 k, .slice (some ⟨gx, 0, none⟩) qs.length qs.length] 31 (0, 0))
      replace hK := (hK.after b4).after bx
      replace h6 := (h6.after b4).after bx
      replace o0 := (o0.below b4).below bx
      replace ox := ox.below bx
      have h8 := al1_0 w4 (.cells #[.int .i64 p, .int .i64 n, .int .i64 m, .int .i64 k, .slice (some ⟨gx, 0, none⟩) qs.length qs.length] 31 (0, 0))
      clear b4 hAx bx ox0
      replace hK : KA w [(w4.heap.size, .cells #[.int .i64 p, .int .i64 n, .int .i64 m, .int .i64 k, .slice (some ⟨gx, 0, none⟩) qs.length qs.length] 31 (0, 0)), (w.heap.size, .cells #[.int .i64 p, .int .i64 n, .int .i64 m, .int .i64 k, .slice A qs.length c] 24 (0, 0)), (w.heap.size + 1, .cells (u8s q) 27 (0, 0))] _ := hK.more h8
      go_upto_region 7 with (fail)
      go_cut [9, 10] from 31 to 37 (fun s0 s1 wx => ∃ (g1 : Nat) (A1 : Option Addr) (c1 : Nat), s0 = .pointer (some ⟨g1, 0, none⟩) ∧ s1 = .int .i64 code ∧ At wx g1 (.cells #[.int .i64 rp, .int .i64 rn, .int .i64 rm, .int .i64 rk, .slice A1 rs.length c1] 31 (0, 0)) ∧ Own wx w.heap.size (.slice A1 rs.length c1) rs ∧ ((Value.slice A0 rs.length c0).ownBlock = none ∨ (Value.slice A0 rs.length c0).ownBlock ≠ (Value.slice A1 rs.length c1).ownBlock) ∧ ((Value.slice (some ⟨gx, 0, none⟩) qs.length qs.length).ownBlock = none ∨ (Value.slice (some ⟨gx, 0, none⟩) qs.length qs.length).ownBlock ≠ (Value.slice A1 rs.length c1).ownBlock) ∧ Own wx w.heap.size (.slice (some ⟨gx, 0, none⟩) qs.length qs.length) qs ∧ Own wx w.heap.size (.slice A0 rs.length c0) rs ∧ At wx g0 (.cells #[.int .i64 rp, .int .i64 rn, .int .i64 rm, .int .i64 rk, .slice A0 rs.length c0] 31 (0, 0)) ∧ KA w [(w4.heap.size, .cells #[.int .i64 p, .int .i64 n, .int .i64 m, .int .i64 k, .slice (some ⟨gx, 0, none⟩) qs.length qs.length] 31 (0, 0)), (w.heap.size, .cells #[.int .i64 p, .int .i64 n, .int .i64 m, .int .i64 k, .slice A qs.length c] 24 (0, 0)), (w.heap.size + 1, .cells (u8s q) 27 (0, 0))] wx)
      case first =>
        go_wp2_with fail
        refine wp_region_held (S := fun w' => ∀ b ∈ ([(w4.heap.size, .cells #[.int .i64 p, .int .i64 n, .int .i64 m, .int .i64 k, .slice (some ⟨gx, 0, none⟩) qs.length qs.length] 31 (0, 0)), (w.heap.size, .cells #[.int .i64 p, .int .i64 n, .int .i64 m, .int .i64 k, .slice A qs.length c] 24 (0, 0)), (w.heap.size + 1, .cells (u8s q) 27 (0, 0))] : List (Nat × Obj)), At w' b.1 b.2) (by kernel_rfl) ?_
        change wpAnyH _ _ _ _ _ _ _ _ (World.drew _)
        obtain ⟨wd, hwd, hK, h6, o0, ox⟩ : ∃ W, W = World.drew _ ∧ KA w [(w4.heap.size, .cells #[.int .i64 p, .int .i64 n, .int .i64 m, .int .i64 k, .slice (some ⟨gx, 0, none⟩) qs.length qs.length] 31 (0, 0)), (w.heap.size, .cells #[.int .i64 p, .int .i64 n, .int .i64 m, .int .i64 k, .slice A qs.length c] 24 (0, 0)), (w.heap.size + 1, .cells (u8s q) 27 (0, 0))] W ∧ At W g0 _ ∧ Own W w.heap.size (.slice A0 rs.length c0) rs ∧ Own W w.heap.size (.slice (some ⟨gx, 0, none⟩) qs.length qs.length) qs := ⟨_, rfl, hK.drew, h6.drewN 1, o0.drew, ox.drew⟩
        rw [← hwd]
        clear hwd h8
        refine held_yield 0 (some 32) (.agg #[.int .i64 p, .int .i64 n, .int .i64 m, .int .i64 k, .slice (some ⟨gx, 0, none⟩) qs.length qs.length]) rfl (by kernel_rfl) (by kernel_rfl) (by kernel_rfl) (fun _ _ _ h => h) rfl rfl (hK.box) (fun w' h' => exec_load_all 31 _ rfl w4.heap.size rfl _ _ _ (h' (w4.heap.size, .cells #[.int .i64 p, .int .i64 n, .int .i64 m, .int .i64 k, .slice (some ⟨gx, 0, none⟩) qs.length qs.length] 31 (0, 0)) (by simp)) Try.underlying31 rfl 5 (by kernel_rfl) rfl) ?_
        go_frame
        refine held_yield 1 (some 33) (.agg (u8s q)) rfl (by kernel_rfl) (by kernel_rfl) (by kernel_rfl) (fun _ _ _ h => h) rfl rfl (hK.box) (fun w' h' => exec_load_all 27 _ rfl (w.heap.size + 1) rfl _ _ _ (h' (w.heap.size + 1, .cells (u8s q) 27 (0, 0)) (by simp)) Try.underlying27 rfl 27 (by kernel_rfl) ((u8s_size _).trans hq.len)) ?_
        go_frame
        refine held_two 2 7 (by kernel_rfl) rfl rfl rfl rfl (fun K' hK' => ?_) (fun K' hK' => ?_)
        · refine wp_call1 (some 34) rfl 10 _ _ rfl call_toProduct (.agg (u8s q)) rfl _ (toProduct_c q hq _) (fun e w6 h => ?_)
          obtain ⟨rfl, b6⟩ := h
          replace hK := hK.after b6
          replace h6 := h6.after b6
          replace o0 := o0.below b6
          replace ox := ox.below b6
          refine ⟨_, rfl, hK' _ _ (hK.box) ?_⟩
          clear hK' K' b6
          go_frame
          refine held_two 3 7 (by kernel_rfl) rfl rfl rfl rfl (fun K' hK' => ?_) (fun K' hK' => ?_)
          · refine wp_call2 (some 35) rfl 11 _ _ _ rfl call_implAddProduct _ _ rfl rfl _ (HIm.out _ _ (ox.rd' hr.good)) (fun e w6 h => ?_)
            obtain ⟨v1, rfl, o1, b6⟩ := h
            have n01 := Own.ne o0 o1 (Nat.le_refl _)
            have nx1 := Own.ne ox o1 (Nat.le_refl _)
            replace o1 := o1.mono hK.below.size
            replace hK := hK.after b6
            replace h6 := h6.after b6
            replace o0 := o0.below b6
            replace ox := ox.below b6
            obtain ⟨A1, c1, rfl, _⟩ := o1.rd Hrb.out
            refine ⟨_, rfl, hK' _ _ (hK.box) ?_⟩
            clear hK' K' b6
            go_frame
            refine held_yield 4 (some 31) (.tuple #[.agg #[.int .i64 rp, .int .i64 rn, .int .i64 rm, .int .i64 rk, .slice A1 rs.length c1], .int .i64 code]) rfl (by kernel_rfl) (by kernel_rfl) (by kernel_rfl) (fun _ _ _ h => h) rfl rfl (hK.box) (fun w' _ => exec_move _ rfl (.tuple #[.agg #[.int .i64 rp, .int .i64 rn, .int .i64 rm, .int .i64 rk, .slice A1 rs.length c1], .int .i64 code]) rfl) ?_
            go_frame
            refine held_yield 5 (some 36) (.agg #[.int .i64 rp, .int .i64 rn, .int .i64 rm, .int .i64 rk, .slice A1 rs.length c1]) rfl (by kernel_rfl) (by kernel_rfl) (by kernel_rfl) (fun _ _ _ h => h) rfl rfl (hK.box) (fun w' _ => exec_extract _ 0 rfl #[.agg #[.int .i64 rp, .int .i64 rn, .int .i64 rm, .int .i64 rk, .slice A1 rs.length c1], .int .i64 code] rfl (.agg #[.int .i64 rp, .int .i64 rn, .int .i64 rm, .int .i64 rk, .slice A1 rs.length c1]) rfl) ?_
            go_frame
            refine held_yield 6 (some 37) (.int .i64 code) rfl (by kernel_rfl) (by kernel_rfl) (by kernel_rfl) (fun _ _ _ h => h) rfl rfl (hK.box) (fun w' _ => exec_extract _ 1 rfl #[.agg #[.int .i64 rp, .int .i64 rn, .int .i64 rm, .int .i64 rk, .slice A1 rs.length c1], .int .i64 code] rfl (.int .i64 code) rfl) ?_
            go_frame
            refine held_oper 7 (by kernel_rfl) rfl rfl (fun K' hK' => ?_)
            refine wp_new (some 9) rfl (exec_alloc_scheme rfl) (fun wn nn => ?_)
            have bn := nn.below (Below.refl _ _) (Nat.le_refl _)
            have y6 := h6.lt
            have yb := hK.lt
            have yw := hK.below.size
            replace hK := hK.after bn
            replace h6 := h6.after bn
            replace o0 := o0.below bn
            replace ox := ox.below bn
            replace o1 := o1.below bn
            have zb := nn.at_
            refine hK' _ _ (hK.box) ?_
            clear hK' K' bn nn
            go_frame
            refine held_oper 8 (by kernel_rfl) rfl rfl (fun K' hK' => ?_)
            refine wp_store_all 31 _ _ rfl rfl _ rfl _ rfl _ _ zb 5 (by kernel_rfl) rfl rfl (one5 _ _ _ _ _ _ _) (fun wp pp => ?_)
            have offv := o1.off zb (by decide)
            replace o1 := o1.put pp offv
            replace hK := hK.put pp (by omega) (fun b hb => Nat.ne_of_lt (yb b hb))
            replace o0 := o0.put pp (o0.off zb (by decide))
            replace ox := ox.put pp (ox.off zb (by decide))
            replace h6 := pp.other h6 (Nat.ne_of_lt y6)
            replace zb := pp.at_
            refine hK' _ _ (hK.box) ?_
            clear hK' K' pp
            refine held_exec 9 (some 10) (.int .i64 code) (by kernel_rfl) rfl rfl rfl (exec_assign _ rfl (.int .i64 code) rfl) (hK.box) ?_
            go_frame
            refine wpAnyH_done (by kernel_rfl) ?_ _
            go_wp2_with fail
            go_meet
            exact ⟨_, _, _, rfl, rfl, zb, o1, n01, nx1, ox, o0, h6, hK⟩
          · refine wp_new (some 9) rfl (exec_alloc_scheme rfl) (fun wn nn => ?_)
            have bn := nn.below (Below.refl _ _) (Nat.le_refl _)
            have y6 := h6.lt
            have yb := hK.lt
            have yw := hK.below.size
            replace hK := hK.after bn
            replace h6 := h6.after bn
            replace o0 := o0.below bn
            replace ox := ox.below bn
            have zb := nn.at_
            refine hK' _ _ (hK.box) ?_
            clear hK' K' bn nn
            go_frame
            refine held_oper 3 (by kernel_rfl) rfl rfl (fun K' hK' => ?_)
            refine wp_call2 (some 35) rfl 11 _ _ _ rfl call_implAddProduct _ _ rfl rfl _ (HIm.out _ _ (ox.rd' hr.good)) (fun e w6 h => ?_)
            obtain ⟨v1, rfl, o1, b6⟩ := h
            have n01 := Own.ne o0 o1 (Nat.le_refl _)
            have nx1 := Own.ne ox o1 (Nat.le_refl _)
            replace o1 := o1.mono hK.below.size
            replace hK := hK.after b6
            replace h6 := h6.after b6
            replace o0 := o0.below b6
            replace ox := ox.below b6
            replace zb := zb.after b6
            obtain ⟨A1, c1, rfl, _⟩ := o1.rd Hrb.out
            refine ⟨_, rfl, hK' _ _ (hK.box) ?_⟩
            clear hK' K' b6
            go_frame
            refine held_yield 4 (some 31) (.tuple #[.agg #[.int .i64 rp, .int .i64 rn, .int .i64 rm, .int .i64 rk, .slice A1 rs.length c1], .int .i64 code]) rfl (by kernel_rfl) (by kernel_rfl) (by kernel_rfl) (fun _ _ _ h => h) rfl rfl (hK.box) (fun w' _ => exec_move _ rfl (.tuple #[.agg #[.int .i64 rp, .int .i64 rn, .int .i64 rm, .int .i64 rk, .slice A1 rs.length c1], .int .i64 code]) rfl) ?_
            go_frame
            refine held_yield 5 (some 36) (.agg #[.int .i64 rp, .int .i64 rn, .int .i64 rm, .int .i64 rk, .slice A1 rs.length c1]) rfl (by kernel_rfl) (by kernel_rfl) (by kernel_rfl) (fun _ _ _ h => h) rfl rfl (hK.box) (fun w' _ => exec_extract _ 0 rfl #[.agg #[.int .i64 rp, .int .i64 rn, .int .i64 rm, .int .i64 rk, .slice A1 rs.length c1], .int .i64 code] rfl (.agg #[.int .i64 rp, .int .i64 rn, .int .i64 rm, .int .i64 rk, .slice A1 rs.length c1]) rfl) ?_
            go_frame
            refine held_yield 6 (some 37) (.int .i64 code) rfl (by kernel_rfl) (by kernel_rfl) (by kernel_rfl) (fun _ _ _ h => h) rfl rfl (hK.box) (fun w' _ => exec_extract _ 1 rfl #[.agg #[.int .i64 rp, .int .i64 rn, .int .i64 rm, .int .i64 rk, .slice A1 rs.length c1], .int .i64 code] rfl (.int .i64 code) rfl) ?_
            go_frame
            refine held_oper 8 (by kernel_rfl) rfl rfl (fun K' hK' => ?_)
            refine wp_store_all 31 _ _ rfl rfl _ rfl _ rfl _ _ zb 5 (by kernel_rfl) rfl rfl (one5 _ _ _ _ _ _ _) (fun wp pp => ?_)
            have offv := o1.off zb (by decide)
            replace o1 := o1.put pp offv
            replace hK := hK.put pp (by omega) (fun b hb => Nat.ne_of_lt (yb b hb))
            replace o0 := o0.put pp (o0.off zb (by decide))
            replace ox := ox.put pp (ox.off zb (by decide))
            replace h6 := pp.other h6 (Nat.ne_of_lt y6)
            replace zb := pp.at_
            refine hK' _ _ (hK.box) ?_
            clear hK' K' pp
            refine held_exec 9 (some 10) (.int .i64 code) (by kernel_rfl) rfl rfl rfl (exec_assign _ rfl (.int .i64 code) rfl) (hK.box) ?_
            go_frame
            refine wpAnyH_done (by kernel_rfl) ?_ _
            go_wp2_with fail
            go_meet
            exact ⟨_, _, _, rfl, rfl, zb, o1, n01, nx1, ox, o0, h6, hK⟩
        · refine wp_new (some 9) rfl (exec_alloc_scheme rfl) (fun wn nn => ?_)
          have bn := nn.below (Below.refl _ _) (Nat.le_refl _)
          have y6 := h6.lt
          have yb := hK.lt
          have yw := hK.below.size
          replace hK := hK.after bn
          replace h6 := h6.after bn
          replace o0 := o0.below bn
          replace ox := ox.below bn
          have zb := nn.at_
          refine hK' _ _ (hK.box) ?_
          clear hK' K' bn nn
          go_frame
          refine held_oper 2 (by kernel_rfl) rfl rfl (fun K' hK' => ?_)
          refine wp_call1 (some 34) rfl 10 _ _ rfl call_toProduct (.agg (u8s q)) rfl _ (toProduct_c q hq _) (fun e w6 h => ?_)
          obtain ⟨rfl, b6⟩ := h
          replace hK := hK.after b6
          replace h6 := h6.after b6
          replace o0 := o0.below b6
          replace ox := ox.below b6
          replace zb := zb.after b6
          refine ⟨_, rfl, hK' _ _ (hK.box) ?_⟩
          clear hK' K' b6
          go_frame
          refine held_oper 3 (by kernel_rfl) rfl rfl (fun K' hK' => ?_)
          refine wp_call2 (some 35) rfl 11 _ _ _ rfl call_implAddProduct _ _ rfl rfl _ (HIm.out _ _ (ox.rd' hr.good)) (fun e w6 h => ?_)
          obtain ⟨v1, rfl, o1, b6⟩ := h
          have n01 := Own.ne o0 o1 (Nat.le_refl _)
          have nx1 := Own.ne ox o1 (Nat.le_refl _)
          replace o1 := o1.mono hK.below.size
          replace hK := hK.after b6
          replace h6 := h6.after b6
          replace o0 := o0.below b6
          replace ox := ox.below b6
          replace zb := zb.after b6
          obtain ⟨A1, c1, rfl, _⟩ := o1.rd Hrb.out
          refine ⟨_, rfl, hK' _ _ (hK.box) ?_⟩
          clear hK' K' b6
          go_frame
          refine held_yield 4 (some 31) (.tuple #[.agg #[.int .i64 rp, .int .i64 rn, .int .i64 rm, .int .i64 rk, .slice A1 rs.length c1], .int .i64 code]) rfl (by kernel_rfl) (by kernel_rfl) (by kernel_rfl) (fun _ _ _ h => h) rfl rfl (hK.box) (fun w' _ => exec_move _ rfl (.tuple #[.agg #[.int .i64 rp, .int .i64 rn, .int .i64 rm, .int .i64 rk, .slice A1 rs.length c1], .int .i64 code]) rfl) ?_
          go_frame
          refine held_yield 5 (some 36) (.agg #[.int .i64 rp, .int .i64 rn, .int .i64 rm, .int .i64 rk, .slice A1 rs.length c1]) rfl (by kernel_rfl) (by kernel_rfl) (by kernel_rfl) (fun _ _ _ h => h) rfl rfl (hK.box) (fun w' _ => exec_extract _ 0 rfl #[.agg #[.int .i64 rp, .int .i64 rn, .int .i64 rm, .int .i64 rk, .slice A1 rs.length c1], .int .i64 code] rfl (.agg #[.int .i64 rp, .int .i64 rn, .int .i64 rm, .int .i64 rk, .slice A1 rs.length c1]) rfl) ?_
          go_frame
          refine held_yield 6 (some 37) (.int .i64 code) rfl (by kernel_rfl) (by kernel_rfl) (by kernel_rfl) (fun _ _ _ h => h) rfl rfl (hK.box) (fun w' _ => exec_extract _ 1 rfl #[.agg #[.int .i64 rp, .int .i64 rn, .int .i64 rm, .int .i64 rk, .slice A1 rs.length c1], .int .i64 code] rfl (.int .i64 code) rfl) ?_
          go_frame
          refine held_oper 8 (by kernel_rfl) rfl rfl (fun K' hK' => ?_)
          refine wp_store_all 31 _ _ rfl rfl _ rfl _ rfl _ _ zb 5 (by kernel_rfl) rfl rfl (one5 _ _ _ _ _ _ _) (fun wp pp => ?_)
          have offv := o1.off zb (by decide)
          replace o1 := o1.put pp offv
          replace hK := hK.put pp (by omega) (fun b hb => Nat.ne_of_lt (yb b hb))
          replace o0 := o0.put pp (o0.off zb (by decide))
          replace ox := ox.put pp (ox.off zb (by decide))
          replace h6 := pp.other h6 (Nat.ne_of_lt y6)
          replace zb := pp.at_
          refine hK' _ _ (hK.box) ?_
          clear hK' K' pp
          refine held_exec 9 (some 10) (.int .i64 code) (by kernel_rfl) rfl rfl rfl (exec_assign _ rfl (.int .i64 code) rfl) (hK.box) ?_
          go_frame
          refine wpAnyH_done (by kernel_rfl) ?_ _
          go_wp2_with fail
          go_meet
          exact ⟨_, _, _, rfl, rfl, zb, o1, n01, nx1, ox, o0, h6, hK⟩
      case rest =>
        clear hK h6 o0 ox h8
        obtain ⟨g1, A1, c1, rfl, rfl, h9, o1, n01, nx1, ox, o0, h6, hK⟩ := hcut
        go_wp2_with (first | (refine wpList_load_all rfl 31 _ rfl g1 rfl _ _ _ (by exact h9) Try.underlying31 rfl 5 (by kernel_rfl) rfl ?_) | (refine wpList_load_all rfl 31 _ rfl g0 rfl _ _ _ (by exact h6) Try.underlying31 rfl 5 (by kernel_rfl) rfl ?_))
        refine (eqScheme_c rp rn rm rk _ _ _ _ rs _ (o1.rd' Hrb.out) (o0.rd' Hrb.out) (by omega)).mono ?_
        rintro e w8 ⟨rfl, b8⟩
        replace hK := hK.after b8
        replace h6 := h6.after b8
        replace h9 := h9.after b8
        replace o0 := o0.below b8
        replace o1 := o1.below b8
        replace ox := ox.below b8
        clear b8
        go_wp2_with fail
        refine wp_region_held (S := fun w' => ∀ b ∈ ([(w4.heap.size, .cells #[.int .i64 p, .int .i64 n, .int .i64 m, .int .i64 k, .slice (some ⟨gx, 0, none⟩) qs.length qs.length] 31 (0, 0)), (w.heap.size, .cells #[.int .i64 p, .int .i64 n, .int .i64 m, .int .i64 k, .slice A qs.length c] 24 (0, 0)), (w.heap.size + 1, .cells (u8s q) 27 (0, 0))] : List (Nat × Obj)), At w' b.1 b.2) (by kernel_rfl) ?_
        change wpAnyH _ _ _ _ _ _ _ _ (World.drew _)
        obtain ⟨wd, hwd, hK, h6, h9, o0, o1, ox⟩ : ∃ W, W = World.drew _ ∧ KA w [(w4.heap.size, .cells #[.int .i64 p, .int .i64 n, .int .i64 m, .int .i64 k, .slice (some ⟨gx, 0, none⟩) qs.length qs.length] 31 (0, 0)), (w.heap.size, .cells #[.int .i64 p, .int .i64 n, .int .i64 m, .int .i64 k, .slice A qs.length c] 24 (0, 0)), (w.heap.size + 1, .cells (u8s q) 27 (0, 0))] W ∧ At W g0 _ ∧ At W g1 _ ∧ Own W w.heap.size (.slice A0 rs.length c0) rs ∧ Own W w.heap.size (.slice A1 rs.length c1) rs ∧ Own W w.heap.size (.slice (some ⟨gx, 0, none⟩) qs.length qs.length) qs := ⟨_, rfl, hK.drew, h6.drewN 1, h9.drewN 1, o0.drew, o1.drew, ox.drew⟩
        rw [← hwd]
        clear hwd
        refine held_yield 0 (some 47) (.agg #[.int .i64 p, .int .i64 n, .int .i64 m, .int .i64 k, .slice (some ⟨gx, 0, none⟩) qs.length qs.length]) rfl (by kernel_rfl) (by kernel_rfl) (by kernel_rfl) (fun _ _ _ h => h) rfl rfl hK.box (fun w' h' => exec_load_all 31 _ rfl w4.heap.size rfl _ _ _ (h' (w4.heap.size, .cells #[.int .i64 p, .int .i64 n, .int .i64 m, .int .i64 k, .slice (some ⟨gx, 0, none⟩) qs.length qs.length] 31 (0, 0)) (by simp)) Try.underlying31 rfl 5 (by kernel_rfl) rfl) ?_
        go_frame
        refine held_yield 1 (some 48) (.agg #[.int .i64 p, .int .i64 n, .int .i64 m, .int .i64 k, .slice A qs.length c]) rfl (by kernel_rfl) (by kernel_rfl) (by kernel_rfl) (fun _ _ _ h => h) rfl rfl hK.box (fun w' h' => exec_load_all 24 _ rfl w.heap.size rfl _ _ _ (h' (w.heap.size, .cells #[.int .i64 p, .int .i64 n, .int .i64 m, .int .i64 k, .slice A qs.length c] 24 (0, 0)) (by simp)) Try.underlying24 rfl 5 (by kernel_rfl) rfl) ?_
        go_frame
        refine held_oper 2 (by kernel_rfl) rfl rfl (fun K' hK' => ?_)
        refine wp_call1 (some 49) rfl 9 _ _ rfl call_toScheme (.agg #[.int .i64 p, .int .i64 n, .int .i64 m, .int .i64 k, .slice A qs.length c]) rfl _ (toScheme_c p n m k A c qs _ (hr.keep hK.below) hlen) (fun e w7 h => ?_)
        obtain ⟨g7, rfl, hg7, hA7, b7⟩ := h
        replace hK := hK.after b7
        replace h6 := h6.after b7
        replace h9 := h9.after b7
        replace o0 := o0.below b7
        replace o1 := o1.below b7
        replace ox := ox.below b7
        refine ⟨_, rfl, hK' _ _ hK.box ?_⟩
        clear hK' K' b7
        go_frame
        refine held_oper 3 (by kernel_rfl) rfl rfl (fun K' hK' => ?_)
        refine wp_call2 (some 50) rfl 12 _ _ _ rfl call_eqScheme _ _ rfl rfl _ (eqScheme_c p n m k _ _ _ _ qs _ (ox.rd' hr.good) (Rd.of_at hA7 hr.good) (by omega)) (fun e w8 h => ?_)
        obtain ⟨rfl, b8⟩ := h
        replace hK := hK.after b8
        replace h6 := h6.after b8
        replace h9 := h9.after b8
        replace o0 := o0.below b8
        replace o1 := o1.below b8
        replace ox := ox.below b8
        refine ⟨_, rfl, hK' _ _ hK.box ?_⟩
        clear hK' K' b8 hA7 hg7
        go_frame
        refine held_exec 4 (some 51) (.bool false) (by kernel_rfl) rfl rfl rfl (exec_not 4 _ rfl true rfl) hK.box ?_
        go_frame
        refine wpAnyH_done (by kernel_rfl) ?_ _
        go_wp2_with (refine wpList_load_all rfl 31 _ rfl w4.heap.size rfl _ _ _ (by exact (hK.box (w4.heap.size, .cells #[.int .i64 p, .int .i64 n, .int .i64 m, .int .i64 k, .slice (some ⟨gx, 0, none⟩) qs.length qs.length] 31 (0, 0)) (by simp))) Try.underlying31 rfl 5 (by kernel_rfl) rfl ?_)
        have nx1s := own_symm nx1
        refine (markScheme_1 p n m k _ ox hlen).mono ?_
        rintro e w9 ⟨rfl, hG, _⟩
        replace h6 := h6.grown hG (ox.off h6 (by decide))
        replace h9 := h9.grown hG (ox.off h9 (by decide))
        have hneg : ¬ (1 : Int) + (qs.length : Int) * 27 < 0 := by omega
        have hneg2 : ¬ (1 : Int) + (rs.length : Int) * 27 < 0 := by omega
        replace o1 := o1.grown hG nx1s
        replace o0 := o0.grown hG n0x
        replace hK := hK.grown ox (Nat.le_refl _) hG (by intro b hb; simp only [List.mem_cons, List.not_mem_nil, or_false] at hb; rcases hb with rfl | rfl | rfl <;> exact ⟨_, _, rfl, by decide⟩)
        clear hG ox nx1 nx1s n0x
        go_wp2_with (first | (refine wpList_want_exec rfl (exec_load_all 31 _ rfl g1 rfl _ _ _ h9 Try.underlying31 rfl 5 (by kernel_rfl) rfl) ?_) | (refine wpList_want_exec rfl (exec_load_all 31 _ rfl g0 rfl _ _ _ h6 Try.underlying31 rfl 5 (by kernel_rfl) rfl) ?_))
        refine (eqScheme_c rp rn rm rk _ _ _ _ rs _ (o1.rd' Hrb.out) (o0.rd' Hrb.out) (by omega)).mono ?_
        rintro e w10 ⟨rfl, b10⟩
        replace hK := hK.after b10
        replace h6 := h6.after b10
        replace h9 := h9.after b10
        replace o0 := o0.below b10
        replace o1 := o1.below b10
        clear b10
        go_wp2_with (refine wpList_load_all rfl 31 _ rfl g1 rfl _ _ _ (by exact h9) Try.underlying31 rfl 5 (by kernel_rfl) rfl ?_)
        refine (markScheme_1 rp rn rm rk _ o1 hrl).mono ?_
        rintro e w11 ⟨rfl, hG, hH⟩
        replace h6 := h6.grown hG (o1.off h6 (by decide))
        replace h9 := h9.grown hG (o1.off h9 (by decide))
        replace o0 := o0.grown hG n01
        replace hK := hK.grown o1 (Nat.le_refl _) hG (by intro b hb; simp only [List.mem_cons, List.not_mem_nil, or_false] at hb; rcases hb with rfl | rfl | rfl <;> exact ⟨_, _, rfl, by decide⟩)
        have s1 := o1.shp
        have hb1 := Blk.of o1 hG
        clear hG o1 n01
        go_wp2_with (refine wpList_load_all rfl 31 _ rfl g1 rfl _ _ _ (by exact h9) Try.underlying31 rfl 5 (by kernel_rfl) rfl ?_)
        refine (heldScheme_1 rp rn rm rk _ s1 hH hrl).mono ?_
        rintro e w12 ⟨rfl, b12⟩
        replace hK := hK.after b12
        replace h6 := h6.after b12
        replace h9 := h9.after b12
        replace o0 := o0.below b12
        replace hH := hH.below b12
        replace hb1 := hb1.after b12
        clear b12
        go_upto_region 24 with (fail)
        go_cut [14, 15] from 79 to 86 (fun s0 s1 wx => ∃ (g2 : Nat) (A2 : Option Addr) (c2 : Nat), s0 = .pointer (some ⟨g2, 0, none⟩) ∧ s1 = .int .i64 code ∧ At wx g2 (.cells #[.int .i64 rp, .int .i64 rn, .int .i64 rm, .int .i64 rk, .slice A2 rs.length c2] 31 (0, 0)) ∧ Own wx w.heap.size (.slice A2 rs.length c2) rs ∧ Held wx (.slice A1 rs.length c1) 1 rs.length ∧ Own wx w.heap.size (.slice A0 rs.length c0) rs ∧ At wx g1 (.cells #[.int .i64 rp, .int .i64 rn, .int .i64 rm, .int .i64 rk, .slice A1 rs.length c1] 31 (0, 0)) ∧ At wx g0 (.cells #[.int .i64 rp, .int .i64 rn, .int .i64 rm, .int .i64 rk, .slice A0 rs.length c0] 31 (0, 0)) ∧ KA w [(w4.heap.size, .cells #[.int .i64 p, .int .i64 n, .int .i64 m, .int .i64 k, .slice (some ⟨gx, 0, none⟩) qs.length qs.length] 31 (0, 0)), (w.heap.size, .cells #[.int .i64 p, .int .i64 n, .int .i64 m, .int .i64 k, .slice A qs.length c] 24 (0, 0)), (w.heap.size + 1, .cells (u8s q) 27 (0, 0))] wx)
        case first =>
          go_wp2_with fail
          refine wp_region_held (S := fun w' => ∀ b ∈ ([(w4.heap.size, .cells #[.int .i64 p, .int .i64 n, .int .i64 m, .int .i64 k, .slice (some ⟨gx, 0, none⟩) qs.length qs.length] 31 (0, 0)), (w.heap.size, .cells #[.int .i64 p, .int .i64 n, .int .i64 m, .int .i64 k, .slice A qs.length c] 24 (0, 0)), (w.heap.size + 1, .cells (u8s q) 27 (0, 0))] : List (Nat × Obj)), At w' b.1 b.2) (by kernel_rfl) ?_
          change wpAnyH _ _ _ _ _ _ _ _ (World.drew _)
          obtain ⟨wd, hwd, hK, h6, h9, o0, hH, hb1⟩ : ∃ W, W = World.drew _ ∧ KA w [(w4.heap.size, .cells #[.int .i64 p, .int .i64 n, .int .i64 m, .int .i64 k, .slice (some ⟨gx, 0, none⟩) qs.length qs.length] 31 (0, 0)), (w.heap.size, .cells #[.int .i64 p, .int .i64 n, .int .i64 m, .int .i64 k, .slice A qs.length c] 24 (0, 0)), (w.heap.size + 1, .cells (u8s q) 27 (0, 0))] W ∧ At W g0 _ ∧ At W g1 _ ∧ Own W w.heap.size (.slice A0 rs.length c0) rs ∧ Held W (.slice A1 rs.length c1) 1 rs.length ∧ Blk W (.slice A1 rs.length c1) := ⟨_, rfl, hK.drew, h6.drewN 1, h9.drewN 1, o0.drew, hH, hb1⟩
          rw [← hwd]
          clear hwd
          refine held_yield 0 (some 80) (.agg #[.int .i64 p, .int .i64 n, .int .i64 m, .int .i64 k, .slice A qs.length c]) rfl (by kernel_rfl) (by kernel_rfl) (by kernel_rfl) (fun _ _ _ h => h) rfl rfl (hK.box) (fun w' h' => exec_load_all 24 _ rfl w.heap.size rfl _ _ _ (h' (w.heap.size, .cells #[.int .i64 p, .int .i64 n, .int .i64 m, .int .i64 k, .slice A qs.length c] 24 (0, 0)) (by simp)) Try.underlying24 rfl 5 (by kernel_rfl) rfl) ?_
          go_frame
          refine held_yield 2 (some 82) (.agg (u8s q)) rfl (by kernel_rfl) (by kernel_rfl) (by kernel_rfl) (fun _ _ _ h => h) rfl rfl (hK.box) (fun w' h' => exec_load_all 27 _ rfl (w.heap.size + 1) rfl _ _ _ (h' (w.heap.size + 1, .cells (u8s q) 27 (0, 0)) (by simp)) Try.underlying27 rfl 27 (by kernel_rfl) ((u8s_size _).trans hq.len)) ?_
          go_frame
          refine held_two 1 8 (by kernel_rfl) rfl rfl rfl rfl (fun K' hK' => ?_) (fun K' hK' => ?_)
          · refine wp_call1 (some 81) rfl 9 _ _ rfl call_toScheme (.agg #[.int .i64 p, .int .i64 n, .int .i64 m, .int .i64 k, .slice A qs.length c]) rfl _ (toScheme_c p n m k A c qs _ (hr.keep hK.below) hlen) (fun e w6 h => ?_)
            obtain ⟨gs, rfl, hgs, hAs, b6⟩ := h
            replace hK := hK.after b6
            replace h6 := h6.after b6
            replace h9 := h9.after b6
            replace o0 := o0.below b6
            replace hH := hH.below b6
            replace hb1 := hb1.after b6
            refine ⟨_, rfl, hK' _ _ (hK.box) ?_⟩
            clear hK' K' b6
            go_frame
            refine held_two 3 8 (by kernel_rfl) rfl rfl rfl rfl (fun K' hK' => ?_) (fun K' hK' => ?_)
            · refine wp_call1 (some 83) rfl 10 _ _ rfl call_toProduct (.agg (u8s q)) rfl _ (toProduct_c q hq _) (fun e w6 h => ?_)
              obtain ⟨rfl, b6⟩ := h
              replace hK := hK.after b6
              replace h6 := h6.after b6
              replace h9 := h9.after b6
              replace o0 := o0.below b6
              replace hH := hH.below b6
              replace hb1 := hb1.after b6
              replace hAs := hAs.after b6
              refine ⟨_, rfl, hK' _ _ (hK.box) ?_⟩
              clear hK' K' b6
              go_frame
              refine held_two 4 8 (by kernel_rfl) rfl rfl rfl rfl (fun K' hK' => ?_) (fun K' hK' => ?_)
              · refine wp_call2 (some 84) rfl 11 _ _ _ rfl call_implAddProduct _ _ rfl rfl _ (HIm.out _ _ (Rd.of_at hAs hr.good)) (fun e w6 h => ?_)
                obtain ⟨v2, rfl, o2, b6⟩ := h
                replace o2 := o2.mono hK.below.size
                replace hK := hK.after b6
                replace h6 := h6.after b6
                replace h9 := h9.after b6
                replace o0 := o0.below b6
                replace hH := hH.below b6
                replace hb1 := hb1.after b6
                replace hAs := hAs.after b6
                obtain ⟨A2, c2, rfl, _⟩ := o2.rd Hrb.out
                refine ⟨_, rfl, hK' _ _ (hK.box) ?_⟩
                clear hK' K' b6
                go_frame
                refine held_yield 5 (some 79) (.tuple #[.agg #[.int .i64 rp, .int .i64 rn, .int .i64 rm, .int .i64 rk, .slice A2 rs.length c2], .int .i64 code]) rfl (by kernel_rfl) (by kernel_rfl) (by kernel_rfl) (fun _ _ _ h => h) rfl rfl (hK.box) (fun w' _ => exec_move _ rfl (.tuple #[.agg #[.int .i64 rp, .int .i64 rn, .int .i64 rm, .int .i64 rk, .slice A2 rs.length c2], .int .i64 code]) rfl) ?_
                go_frame
                refine held_yield 6 (some 85) (.agg #[.int .i64 rp, .int .i64 rn, .int .i64 rm, .int .i64 rk, .slice A2 rs.length c2]) rfl (by kernel_rfl) (by kernel_rfl) (by kernel_rfl) (fun _ _ _ h => h) rfl rfl (hK.box) (fun w' _ => exec_extract _ 0 rfl #[.agg #[.int .i64 rp, .int .i64 rn, .int .i64 rm, .int .i64 rk, .slice A2 rs.length c2], .int .i64 code] rfl (.agg #[.int .i64 rp, .int .i64 rn, .int .i64 rm, .int .i64 rk, .slice A2 rs.length c2]) rfl) ?_
                go_frame
                refine held_yield 7 (some 86) (.int .i64 code) rfl (by kernel_rfl) (by kernel_rfl) (by kernel_rfl) (fun _ _ _ h => h) rfl rfl (hK.box) (fun w' _ => exec_extract _ 1 rfl #[.agg #[.int .i64 rp, .int .i64 rn, .int .i64 rm, .int .i64 rk, .slice A2 rs.length c2], .int .i64 code] rfl (.int .i64 code) rfl) ?_
                go_frame
                refine held_oper 8 (by kernel_rfl) rfl rfl (fun K' hK' => ?_)
                refine wp_new (some 14) rfl (exec_alloc_scheme rfl) (fun wn nn => ?_)
                have bn := nn.below (Below.refl _ _) (Nat.le_refl _)
                have zt := hb1.ne
                have y9 := h9.lt
                have y6 := h6.lt
                have yb := hK.lt
                have yw := hK.below.size
                replace hK := hK.after bn
                replace h6 := h6.after bn
                replace h9 := h9.after bn
                replace o0 := o0.below bn
                replace hH := hH.below bn
                replace hb1 := hb1.after bn
                replace hAs := hAs.after bn
                replace o2 := o2.below bn
                have zb := nn.at_
                refine hK' _ _ (hK.box) ?_
                clear hK' K' bn nn
                go_frame
                refine held_oper 9 (by kernel_rfl) rfl rfl (fun K' hK' => ?_)
                refine wp_store_all 31 _ _ rfl rfl _ rfl _ rfl _ _ zb 5 (by kernel_rfl) rfl rfl (one5 _ _ _ _ _ _ _) (fun wp pp => ?_)
                have offv := o2.off zb (by decide)
                replace o2 := o2.put pp offv
                replace hK := hK.put pp (by omega) (fun b hb => Nat.ne_of_lt (yb b hb))
                replace o0 := o0.put pp (o0.off zb (by decide))
                replace hH := hH.put pp zt
                replace h9 := pp.other h9 (Nat.ne_of_lt y9)
                replace h6 := pp.other h6 (Nat.ne_of_lt y6)
                replace zb := pp.at_
                refine hK' _ _ (hK.box) ?_
                clear hK' K' pp
                refine held_exec 10 (some 15) (.int .i64 code) (by kernel_rfl) rfl rfl rfl (exec_assign _ rfl (.int .i64 code) rfl) (hK.box) ?_
                go_frame
                refine wpAnyH_done (by kernel_rfl) ?_ _
                go_wp2_with fail
                go_meet
                exact ⟨_, _, _, rfl, rfl, zb, o2, hH, o0, h9, h6, hK⟩
              · refine wp_new (some 14) rfl (exec_alloc_scheme rfl) (fun wn nn => ?_)
                have bn := nn.below (Below.refl _ _) (Nat.le_refl _)
                have zt := hb1.ne
                have y9 := h9.lt
                have y6 := h6.lt
                have yb := hK.lt
                have yw := hK.below.size
                replace hK := hK.after bn
                replace h6 := h6.after bn
                replace h9 := h9.after bn
                replace o0 := o0.below bn
                replace hH := hH.below bn
                replace hb1 := hb1.after bn
                replace hAs := hAs.after bn
                have zb := nn.at_
                refine hK' _ _ (hK.box) ?_
                clear hK' K' bn nn
                go_frame
                refine held_oper 4 (by kernel_rfl) rfl rfl (fun K' hK' => ?_)
                refine wp_call2 (some 84) rfl 11 _ _ _ rfl call_implAddProduct _ _ rfl rfl _ (HIm.out _ _ (Rd.of_at hAs hr.good)) (fun e w6 h => ?_)
                obtain ⟨v2, rfl, o2, b6⟩ := h
                replace o2 := o2.mono hK.below.size
                replace hK := hK.after b6
                replace h6 := h6.after b6
                replace h9 := h9.after b6
                replace o0 := o0.below b6
                replace hH := hH.below b6
                replace hb1 := hb1.after b6
                replace hAs := hAs.after b6
                replace zb := zb.after b6
                obtain ⟨A2, c2, rfl, _⟩ := o2.rd Hrb.out
                refine ⟨_, rfl, hK' _ _ (hK.box) ?_⟩
                clear hK' K' b6
                go_frame
                refine held_yield 5 (some 79) (.tuple #[.agg #[.int .i64 rp, .int .i64 rn, .int .i64 rm, .int .i64 rk, .slice A2 rs.length c2], .int .i64 code]) rfl (by kernel_rfl) (by kernel_rfl) (by kernel_rfl) (fun _ _ _ h => h) rfl rfl (hK.box) (fun w' _ => exec_move _ rfl (.tuple #[.agg #[.int .i64 rp, .int .i64 rn, .int .i64 rm, .int .i64 rk, .slice A2 rs.length c2], .int .i64 code]) rfl) ?_
                go_frame
                refine held_yield 6 (some 85) (.agg #[.int .i64 rp, .int .i64 rn, .int .i64 rm, .int .i64 rk, .slice A2 rs.length c2]) rfl (by kernel_rfl) (by kernel_rfl) (by kernel_rfl) (fun _ _ _ h => h) rfl rfl (hK.box) (fun w' _ => exec_extract _ 0 rfl #[.agg #[.int .i64 rp, .int .i64 rn, .int .i64 rm, .int .i64 rk, .slice A2 rs.length c2], .int .i64 code] rfl (.agg #[.int .i64 rp, .int .i64 rn, .int .i64 rm, .int .i64 rk, .slice A2 rs.length c2]) rfl) ?_
                go_frame
                refine held_yield 7 (some 86) (.int .i64 code) rfl (by kernel_rfl) (by kernel_rfl) (by kernel_rfl) (fun _ _ _ h => h) rfl rfl (hK.box) (fun w' _ => exec_extract _ 1 rfl #[.agg #[.int .i64 rp, .int .i64 rn, .int .i64 rm, .int .i64 rk, .slice A2 rs.length c2], .int .i64 code] rfl (.int .i64 code) rfl) ?_
                go_frame
                refine held_oper 9 (by kernel_rfl) rfl rfl (fun K' hK' => ?_)
                refine wp_store_all 31 _ _ rfl rfl _ rfl _ rfl _ _ zb 5 (by kernel_rfl) rfl rfl (one5 _ _ _ _ _ _ _) (fun wp pp => ?_)
                have offv := o2.off zb (by decide)
                replace o2 := o2.put pp offv
                replace hK := hK.put pp (by omega) (fun b hb => Nat.ne_of_lt (yb b hb))
                replace o0 := o0.put pp (o0.off zb (by decide))
                replace hH := hH.put pp zt
                replace h9 := pp.other h9 (Nat.ne_of_lt y9)
                replace h6 := pp.other h6 (Nat.ne_of_lt y6)
                replace zb := pp.at_
                refine hK' _ _ (hK.box) ?_
                clear hK' K' pp
                refine held_exec 10 (some 15) (.int .i64 code) (by kernel_rfl) rfl rfl rfl (exec_assign _ rfl (.int .i64 code) rfl) (hK.box) ?_
                go_frame
                refine wpAnyH_done (by kernel_rfl) ?_ _
                go_wp2_with fail
                go_meet
                exact ⟨_, _, _, rfl, rfl, zb, o2, hH, o0, h9, h6, hK⟩
            · refine wp_new (some 14) rfl (exec_alloc_scheme rfl) (fun wn nn => ?_)
              have bn := nn.below (Below.refl _ _) (Nat.le_refl _)
              have zt := hb1.ne
              have y9 := h9.lt
              have y6 := h6.lt
              have yb := hK.lt
              have yw := hK.below.size
              replace hK := hK.after bn
              replace h6 := h6.after bn
              replace h9 := h9.after bn
              replace o0 := o0.below bn
              replace hH := hH.below bn
              replace hb1 := hb1.after bn
              replace hAs := hAs.after bn
              have zb := nn.at_
              refine hK' _ _ (hK.box) ?_
              clear hK' K' bn nn
              go_frame
              refine held_oper 3 (by kernel_rfl) rfl rfl (fun K' hK' => ?_)
              refine wp_call1 (some 83) rfl 10 _ _ rfl call_toProduct (.agg (u8s q)) rfl _ (toProduct_c q hq _) (fun e w6 h => ?_)
              obtain ⟨rfl, b6⟩ := h
              replace hK := hK.after b6
              replace h6 := h6.after b6
              replace h9 := h9.after b6
              replace o0 := o0.below b6
              replace hH := hH.below b6
              replace hb1 := hb1.after b6
              replace hAs := hAs.after b6
              replace zb := zb.after b6
              refine ⟨_, rfl, hK' _ _ (hK.box) ?_⟩
              clear hK' K' b6
              go_frame
              refine held_oper 4 (by kernel_rfl) rfl rfl (fun K' hK' => ?_)
              refine wp_call2 (some 84) rfl 11 _ _ _ rfl call_implAddProduct _ _ rfl rfl _ (HIm.out _ _ (Rd.of_at hAs hr.good)) (fun e w6 h => ?_)
              obtain ⟨v2, rfl, o2, b6⟩ := h
              replace o2 := o2.mono hK.below.size
              replace hK := hK.after b6
              replace h6 := h6.after b6
              replace h9 := h9.after b6
              replace o0 := o0.below b6
              replace hH := hH.below b6
              replace hb1 := hb1.after b6
              replace hAs := hAs.after b6
              replace zb := zb.after b6
              obtain ⟨A2, c2, rfl, _⟩ := o2.rd Hrb.out
              refine ⟨_, rfl, hK' _ _ (hK.box) ?_⟩
              clear hK' K' b6
              go_frame
              refine held_yield 5 (some 79) (.tuple #[.agg #[.int .i64 rp, .int .i64 rn, .int .i64 rm, .int .i64 rk, .slice A2 rs.length c2], .int .i64 code]) rfl (by kernel_rfl) (by kernel_rfl) (by kernel_rfl) (fun _ _ _ h => h) rfl rfl (hK.box) (fun w' _ => exec_move _ rfl (.tuple #[.agg #[.int .i64 rp, .int .i64 rn, .int .i64 rm, .int .i64 rk, .slice A2 rs.length c2], .int .i64 code]) rfl) ?_
              go_frame
              refine held_yield 6 (some 85) (.agg #[.int .i64 rp, .int .i64 rn, .int .i64 rm, .int .i64 rk, .slice A2 rs.length c2]) rfl (by kernel_rfl) (by kernel_rfl) (by kernel_rfl) (fun _ _ _ h => h) rfl rfl (hK.box) (fun w' _ => exec_extract _ 0 rfl #[.agg #[.int .i64 rp, .int .i64 rn, .int .i64 rm, .int .i64 rk, .slice A2 rs.length c2], .int .i64 code] rfl (.agg #[.int .i64 rp, .int .i64 rn, .int .i64 rm, .int .i64 rk, .slice A2 rs.length c2]) rfl) ?_
              go_frame
              refine held_yield 7 (some 86) (.int .i64 code) rfl (by kernel_rfl) (by kernel_rfl) (by kernel_rfl) (fun _ _ _ h => h) rfl rfl (hK.box) (fun w' _ => exec_extract _ 1 rfl #[.agg #[.int .i64 rp, .int .i64 rn, .int .i64 rm, .int .i64 rk, .slice A2 rs.length c2], .int .i64 code] rfl (.int .i64 code) rfl) ?_
              go_frame
              refine held_oper 9 (by kernel_rfl) rfl rfl (fun K' hK' => ?_)
              refine wp_store_all 31 _ _ rfl rfl _ rfl _ rfl _ _ zb 5 (by kernel_rfl) rfl rfl (one5 _ _ _ _ _ _ _) (fun wp pp => ?_)
              have offv := o2.off zb (by decide)
              replace o2 := o2.put pp offv
              replace hK := hK.put pp (by omega) (fun b hb => Nat.ne_of_lt (yb b hb))
              replace o0 := o0.put pp (o0.off zb (by decide))
              replace hH := hH.put pp zt
              replace h9 := pp.other h9 (Nat.ne_of_lt y9)
              replace h6 := pp.other h6 (Nat.ne_of_lt y6)
              replace zb := pp.at_
              refine hK' _ _ (hK.box) ?_
              clear hK' K' pp
              refine held_exec 10 (some 15) (.int .i64 code) (by kernel_rfl) rfl rfl rfl (exec_assign _ rfl (.int .i64 code) rfl) (hK.box) ?_
              go_frame
              refine wpAnyH_done (by kernel_rfl) ?_ _
              go_wp2_with fail
              go_meet
              exact ⟨_, _, _, rfl, rfl, zb, o2, hH, o0, h9, h6, hK⟩
          · refine wp_new (some 14) rfl (exec_alloc_scheme rfl) (fun wn nn => ?_)
            have bn := nn.below (Below.refl _ _) (Nat.le_refl _)
            have zt := hb1.ne
            have y9 := h9.lt
            have y6 := h6.lt
            have yb := hK.lt
            have yw := hK.below.size
            replace hK := hK.after bn
            replace h6 := h6.after bn
            replace h9 := h9.after bn
            replace o0 := o0.below bn
            replace hH := hH.below bn
            replace hb1 := hb1.after bn
            have zb := nn.at_
            refine hK' _ _ (hK.box) ?_
            clear hK' K' bn nn
            go_frame
            refine held_oper 1 (by kernel_rfl) rfl rfl (fun K' hK' => ?_)
            refine wp_call1 (some 81) rfl 9 _ _ rfl call_toScheme (.agg #[.int .i64 p, .int .i64 n, .int .i64 m, .int .i64 k, .slice A qs.length c]) rfl _ (toScheme_c p n m k A c qs _ (hr.keep hK.below) hlen) (fun e w6 h => ?_)
            obtain ⟨gs, rfl, hgs, hAs, b6⟩ := h
            replace hK := hK.after b6
            replace h6 := h6.after b6
            replace h9 := h9.after b6
            replace o0 := o0.below b6
            replace hH := hH.below b6
            replace hb1 := hb1.after b6
            replace zb := zb.after b6
            refine ⟨_, rfl, hK' _ _ (hK.box) ?_⟩
            clear hK' K' b6
            go_frame
            refine held_oper 3 (by kernel_rfl) rfl rfl (fun K' hK' => ?_)
            refine wp_call1 (some 83) rfl 10 _ _ rfl call_toProduct (.agg (u8s q)) rfl _ (toProduct_c q hq _) (fun e w6 h => ?_)
            obtain ⟨rfl, b6⟩ := h
            replace hK := hK.after b6
            replace h6 := h6.after b6
            replace h9 := h9.after b6
            replace o0 := o0.below b6
            replace hH := hH.below b6
            replace hb1 := hb1.after b6
            replace zb := zb.after b6
            replace hAs := hAs.after b6
            refine ⟨_, rfl, hK' _ _ (hK.box) ?_⟩
            clear hK' K' b6
            go_frame
            refine held_oper 4 (by kernel_rfl) rfl rfl (fun K' hK' => ?_)
            refine wp_call2 (some 84) rfl 11 _ _ _ rfl call_implAddProduct _ _ rfl rfl _ (HIm.out _ _ (Rd.of_at hAs hr.good)) (fun e w6 h => ?_)
            obtain ⟨v2, rfl, o2, b6⟩ := h
            replace o2 := o2.mono hK.below.size
            replace hK := hK.after b6
            replace h6 := h6.after b6
            replace h9 := h9.after b6
            replace o0 := o0.below b6
            replace hH := hH.below b6
            replace hb1 := hb1.after b6
            replace zb := zb.after b6
            replace hAs := hAs.after b6
            obtain ⟨A2, c2, rfl, _⟩ := o2.rd Hrb.out
            refine ⟨_, rfl, hK' _ _ (hK.box) ?_⟩
            clear hK' K' b6
            go_frame
            refine held_yield 5 (some 79) (.tuple #[.agg #[.int .i64 rp, .int .i64 rn, .int .i64 rm, .int .i64 rk, .slice A2 rs.length c2], .int .i64 code]) rfl (by kernel_rfl) (by kernel_rfl) (by kernel_rfl) (fun _ _ _ h => h) rfl rfl (hK.box) (fun w' _ => exec_move _ rfl (.tuple #[.agg #[.int .i64 rp, .int .i64 rn, .int .i64 rm, .int .i64 rk, .slice A2 rs.length c2], .int .i64 code]) rfl) ?_
            go_frame
            refine held_yield 6 (some 85) (.agg #[.int .i64 rp, .int .i64 rn, .int .i64 rm, .int .i64 rk, .slice A2 rs.length c2]) rfl (by kernel_rfl) (by kernel_rfl) (by kernel_rfl) (fun _ _ _ h => h) rfl rfl (hK.box) (fun w' _ => exec_extract _ 0 rfl #[.agg #[.int .i64 rp, .int .i64 rn, .int .i64 rm, .int .i64 rk, .slice A2 rs.length c2], .int .i64 code] rfl (.agg #[.int .i64 rp, .int .i64 rn, .int .i64 rm, .int .i64 rk, .slice A2 rs.length c2]) rfl) ?_
            go_frame
            refine held_yield 7 (some 86) (.int .i64 code) rfl (by kernel_rfl) (by kernel_rfl) (by kernel_rfl) (fun _ _ _ h => h) rfl rfl (hK.box) (fun w' _ => exec_extract _ 1 rfl #[.agg #[.int .i64 rp, .int .i64 rn, .int .i64 rm, .int .i64 rk, .slice A2 rs.length c2], .int .i64 code] rfl (.int .i64 code) rfl) ?_
            go_frame
            refine held_oper 9 (by kernel_rfl) rfl rfl (fun K' hK' => ?_)
            refine wp_store_all 31 _ _ rfl rfl _ rfl _ rfl _ _ zb 5 (by kernel_rfl) rfl rfl (one5 _ _ _ _ _ _ _) (fun wp pp => ?_)
            have offv := o2.off zb (by decide)
            replace o2 := o2.put pp offv
            replace hK := hK.put pp (by omega) (fun b hb => Nat.ne_of_lt (yb b hb))
            replace o0 := o0.put pp (o0.off zb (by decide))
            replace hH := hH.put pp zt
            replace h9 := pp.other h9 (Nat.ne_of_lt y9)
            replace h6 := pp.other h6 (Nat.ne_of_lt y6)
            replace zb := pp.at_
            refine hK' _ _ (hK.box) ?_
            clear hK' K' pp
            refine held_exec 10 (some 15) (.int .i64 code) (by kernel_rfl) rfl rfl rfl (exec_assign _ rfl (.int .i64 code) rfl) (hK.box) ?_
            go_frame
            refine wpAnyH_done (by kernel_rfl) ?_ _
            go_wp2_with fail
            go_meet
            exact ⟨_, _, _, rfl, rfl, zb, o2, hH, o0, h9, h6, hK⟩
        case rest =>
          clear hK h6 h9 o0 hH hb1
          obtain ⟨g2, A2, c2, rfl, rfl, h14, o2, hH, o0, h9, h6, hK⟩ := hcut
          go_wp2_with (first | (refine wpList_load_all rfl 31 _ rfl g2 rfl _ _ _ (by exact h14) Try.underlying31 rfl 5 (by kernel_rfl) rfl ?_) | (refine wpList_load_all rfl 31 _ rfl g0 rfl _ _ _ (by exact h6) Try.underlying31 rfl 5 (by kernel_rfl) rfl ?_))
          refine (eqScheme_c rp rn rm rk _ _ _ _ rs _ (o2.rd' Hrb.out) (o0.rd' Hrb.out) (by omega)).mono ?_
          rintro e w15 ⟨rfl, b15⟩
          replace h9 := h9.after b15
          replace hH := hH.below b15
          replace hK := hK.after b15
          clear b15 o0 o2 h6 h14
          go_wp2_with (refine wpList_load_all rfl 31 _ rfl g1 rfl _ _ _ (by exact h9) Try.underlying31 rfl 5 (by kernel_rfl) rfl ?_)
          refine (heldScheme_1 rp rn rm rk _ s1 hH hrl).mono ?_
          rintro e w16 ⟨rfl, b16⟩
          replace hK := hK.after b16
          go_wp2_with fail
          go_ret
          exact ⟨rfl, hK.below⟩
end Go.Proofs.Ytpoekhpchhmkaaa
