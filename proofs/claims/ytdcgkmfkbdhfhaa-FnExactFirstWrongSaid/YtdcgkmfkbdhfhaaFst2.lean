/-
  impl.firstWrong.
-/
import Derived.Test.YtdcgkmfkbdhfhaaFst1
namespace Go.Proofs.Ytdcgkmfkbdhfhaa
open Go.RowKit
set_option maxRecDepth 100000
def FirstV (w w' : World) (v : Value) : Option (Nat × Nat × Nat) → Prop
  | none => v = .slice none 0 0
  | some (a, b, c) => ∃ g, v = .slice (some ⟨g, 0, none⟩) 3 3 ∧ w.heap.size ≤ g ∧ At w' g (.cells #[.int .i64 a, .int .i64 b, .int .i64 c] 2 (0, 0))
def FirstPost (w : World) (o : Option (Nat × Nat × Nat)) (e : Ending) (w' : World) : Prop := ∃ v, e = .returned v ∧ FirstV w w' v o ∧ Below w.heap.size w w'
def FwRel (w : World) (p n m k : Int) (A : Option Addr) (len cap g : Nat) (W : Nat → Nat → Nat → Bool) (N1 N2 N3 a : Nat) (v : Value) (wr : World) : Prop :=
  KC w p n m k A len cap g wr ∧ ((v = .slice none 0 0 ∧ (runA W N2 N3 a).1 = 0) ∨ ∃ t, FirstV w wr v (some t) ∧ (runA W N2 N3 N1).2 = some t)
def PairRel (w : World) (p n m k : Int) (A : Option Addr) (len cap g : Nat) (ff gg : List Nat) (s7 s8 : Value) (wx : World) : Prop :=
  ∃ g7 g8, s7 = .pointer (some ⟨g7, 0, none⟩) ∧ s8 = .pointer (some ⟨g8, 0, none⟩) ∧ At wx g7 (.cells (u8s ff) 58 (0, 0)) ∧ At wx g8 (.cells (u8s gg) 58 (0, 0)) ∧ KC w p n m k A len cap g wx
theorem FirstV.after {w w1 w2 : World} {v : Value} {t : Nat × Nat × Nat} (h : FirstV w w1 v (some t)) (hb : Below w1.heap.size w1 w2) : FirstV w w2 v (some t) := by
  obtain ⟨a, b, c⟩ := t
  obtain ⟨g, hv, hg, hA⟩ := h
  exact ⟨g, hv, hg, hA.after hb⟩
theorem FirstV.val {w w1 : World} {v : Value} {t : Nat × Nat × Nat} (h : FirstV w w1 v (some t)) : ∃ g, v = .slice (some ⟨g, 0, none⟩) 3 3 := by
  obtain ⟨a, b, c⟩ := t
  obtain ⟨g, hv, _⟩ := h
  exact ⟨g, hv⟩
set_option maxHeartbeats 1600000 in
theorem firstWrong_c (p n m k : Int) (A : Option Addr) (cap : Nat) (qs : List (List Nat)) (w : World) (hr : Rd w A qs) (hs : schemeB p n m k qs = true) :
    Calls Try.prog 41 #[.agg #[.int .i64 p, .int .i64 n, .int .i64 m, .int .i64 k, .slice A qs.length cap]] w (FirstPost w (wrS p n m k qs).2) := by
  have Hsz := Lib.hid (sizesB_parts (schemeB_sizes hs))
  have Hbd := Lib.hid (sizes_bounds (schemeB_sizes hs))
  have Hpb := Lib.hid (primeB_bounds (sizesB_parts (schemeB_sizes hs)).1)
  have H30 := Lib.hid (schemeB_len hs)
  have Hs := Lib.hid hs
  obtain ⟨⟨x1, x2⟩, ⟨y1, y2⟩, z1, z2⟩ := sizesB_mul (schemeB_sizes hs)
  obtain ⟨N1, e1⟩ := Int.eq_ofNat_of_zero_le (show 0 ≤ n * m by omega)
  obtain ⟨N2, e2⟩ := Int.eq_ofNat_of_zero_le (show 0 ≤ m * k by omega)
  obtain ⟨N3, e3⟩ := Int.eq_ofNat_of_zero_le (show 0 ≤ n * k by omega)
  have l1 : N1 ≤ 9 := by omega
  have l2 : N2 ≤ 9 := by omega
  have l3 : N3 ≤ 9 := by omega
  have Hw : Hid ((wrS p n m k qs).2 = (runA (wrongB p m k qs) N2 N3 N1).2) := Lib.hid (by unfold wrS; rw [e1, e2, e3]; rfl)
  have Hwf : Hid (WF (runA (wrongB p m k qs) N2 N3 N1)) := Lib.hid (WF.runA _ _ _ _)
  have E1 : Hid ((N1 : Int) = n * m) := Lib.hid e1.symm
  have E2 : Hid ((N2 : Int) = m * k) := Lib.hid e2.symm
  have E3 : Hid ((N3 : Int) = n * k) := Lib.hid e3.symm
  have HWA : Hid (∀ a b c : Nat, a < N1 → b < N2 → c < N3 → wrongB p m k qs a b c = !decide ((sidesL p.toNat qs a b)[c]?.getD 0 = (rightL m k a b)[c]?.getD 0)) :=
    Lib.hid (fun a b c ha hb hc => wrong_at hs (by omega) (by omega) (by omega))
  have H1 := Lib.hid (fun w => places_c n m w (sizesB_parts (schemeB_sizes hs)).2.1 (sizesB_parts (schemeB_sizes hs)).2.2.1)
  have H2 := Lib.hid (fun w => places_c m k w (sizesB_parts (schemeB_sizes hs)).2.2.1 (sizesB_parts (schemeB_sizes hs)).2.2.2)
  have H3 := Lib.hid (fun w => places_c n k w (sizesB_parts (schemeB_sizes hs)).2.1 (sizesB_parts (schemeB_sizes hs)).2.2.2)
  clear hs x1 x2 y1 y2 z1 z2 e1 e2 e3
  generalize hWd : wrongB p m k qs = W at *
  have HWd := Lib.hid hWd
  clear hWd
  go_enter Try.func41, Try.ntmps41
  go_wp2_with fail
  go_step3
  go_wp2_with fail
  refine (shapesOf_c p n m k _ _).mono ?_
  rintro e w2 ⟨rfl, c1⟩
  have hB := below_after (below1 _ _) c1
  have h0 := At.after (al1_0 _ _) c1
  clear c1
  go_wp2_with fail
  go_step3
  go_wp2_with fail
  have hK : KC w p n m k A qs.length cap w2.heap.size (w2.alloc (.cells #[.int .i64 n, .int .i64 m, .int .i64 m, .int .i64 k, .int .i64 n, .int .i64 k] 53 (0, 0))) := ⟨below_after hB (below1 _ _), h0.after (below1 _ _), al1_0 _ _⟩
  go_loopg [3, 5] N1 (fun gk s3 s5 wx => ∃ a : Nat, a + gk = N1 ∧ s5 = .int .i64 a ∧ FwRel w p n m k A qs.length cap w2.heap.size W N1 N2 N3 a s3 wx)
  case atStart => exact ⟨0, by omega, rfl, hK, .inl ⟨rfl, rfl⟩⟩
  case round =>
    clear hK hB h0
    generalize w2.heap.size = g at *
    obtain ⟨a, hag, rfl, hK, hF⟩ := hrel
    go_wp2_with (refine wpList_of_exec rfl (exec_load_lit 52 _ rfl g 0 rfl _ _ _ 2 hK.shp Try.underlying52 rfl (by kernel_rfl) (by simp) #[.int .i64 n, .int .i64 m] rfl) ?_)
    refine (H1.out _).mono ?_
    rintro e w4 ⟨rfl, c1⟩
    replace hK := hK.after c1
    rw [← E1.out]
    cases gk with
    | zero =>
      obtain rfl : a = N1 := by omega
      rcases hF with ⟨rfl, h0⟩ | ⟨t, hv, ht⟩
      · have Hn : Hid ((wrS p n m k qs).2 = none) := Lib.hid (by rw [Hw.out]; exact Hwf.out.1 h0)
        clear h0
        go_wp2_with fail
        try rw [Exit.noGoto_ret]
        go_ret
        exact ⟨_, rfl, by rw [Hn.out]; rfl, hK.below⟩
      · replace hv := hv.after c1
        obtain ⟨g0, rfl⟩ := hv.val
        have Hn : Hid ((wrS p n m k qs).2 = some t) := Lib.hid (by rw [Hw.out]; exact ht)
        clear ht
        go_wp2_with fail
        try rw [Exit.noGoto_ret]
        go_ret
        exact ⟨_, rfl, by rw [Hn.out]; exact hv, hK.below⟩
    | succ gk =>
      have hlt : a < N1 := by omega
      rcases hF with ⟨rfl, h0⟩ | ⟨t, hv, ht⟩
      · have e0 : IntKind.i64.wrap ((a : Int) + 1) = (a : Int) + 1 := IntWalk.i64_in _ (by omega)
        have HZ := Lib.hid h0
        clear h0 c1
        go_wp2_with (first | (refine wpList_want_exec rfl (exec_eql_nil 38 _ 2 _ _ rfl Try.underlying38 none 0 0 rfl rfl) ?_) | refine wpList_of_exec rfl (exec_load_lit 52 _ rfl g 2 rfl _ _ _ 2 hK.shp Try.underlying52 rfl (by kernel_rfl) (by simp) #[.int .i64 m, .int .i64 k] rfl) ?_)
        refine (H2.out _).mono ?_
        rintro e w5 ⟨rfl, c1⟩
        replace hK := hK.after c1
        clear c1
        rw [← E2.out]
        go_wp2_with fail
        go_loopg [3, 26] N2 (fun gk s3 s26 wx => ∃ b : Nat, b + gk = N2 ∧ s26 = .int .i64 b ∧ s3 = .slice none 0 0 ∧ (runB W N3 (runA W N2 N3 a) a b).1 = 0 ∧ KC w p n m k A qs.length cap g wx)
        case atStart => exact ⟨0, by omega, rfl, rfl, HZ.out, hK⟩
        case round =>
          clear hK
          obtain ⟨b, hbg, rfl, rfl, hz2, hK⟩ := hrel
          have HZ2 := Lib.hid hz2
          clear hz2
          cases gk with
          | zero =>
            obtain rfl : b = N2 := by omega
            go_wp2_with fail
            go_roundg gk
            case measure => omega
            case rel => exact ⟨a + 1, by omega, by go_num, hK, .inl ⟨rfl, HZ2.out⟩⟩
          | succ gb =>
            have hlt2 : b < N2 := by omega
            have f0 : IntKind.i64.wrap ((b : Int) + 1) = (b : Int) + 1 := IntWalk.i64_in _ (by omega)
            have HL := Lib.hid (leftSidesI_c p n m k A cap qs a b Hpb.out H30.out (by omega) (by omega))
            have HR := Lib.hid (fun v w => rightSides_c p n m k a b v w Hbd.out.1 Hbd.out.2.1 Hbd.out.2.2 ⟨by omega, by rw [← E1.out]; omega⟩ (by omega) ⟨by omega, by omega⟩)
            have hfb := sidesL_bytes (p := p.toNat) qs a b (by have := Hpb.out; omega) (by have := Hpb.out; omega)
            have hgb := rightL_bytes m k a b
            have HWb : Hid (∀ c : Nat, c < N3 → W a b c = !decide ((sidesL p.toNat qs a b)[c]?.getD 0 = (rightL m k a b)[c]?.getD 0)) := Lib.hid (fun c hc => HWA.out a b c hlt hlt2 hc)
            generalize sidesL p.toNat qs a b = ff at *
            generalize rightL m k a b = gg at *
            go_wp2_with fail
            go_cut [7, 8] from 29 to 36 (fun s7 s8 wx => PairRel w p n m k A qs.length cap g ff gg s7 s8 wx)
            case first =>
              refine wp_region_held (S := fun w' => At w' w.heap.size (.cells #[.int .i64 p, .int .i64 n, .int .i64 m, .int .i64 k, .slice A qs.length cap] 30 (0, 0))) (by kernel_rfl) ?_
              change wpAnyH _ _ _ _ _ _ _ _ wr.drew
              replace hK := hK.drew
              generalize wr.drew = wd at *
              refine held_yield 0 (some 29) (.agg #[.int .i64 p, .int .i64 n, .int .i64 m, .int .i64 k, .slice A qs.length cap]) rfl (by kernel_rfl) (by kernel_rfl) (by kernel_rfl) (fun _ _ _ h => h) rfl rfl hK.box (fun w' h' => exec_load_all 30 _ rfl w.heap.size rfl _ _ _ h' Try.underlying30 rfl 5 (by kernel_rfl) rfl) ?_
              go_frame
              refine held_yield 1 (some 30) (.int .i64 (a : Int)) rfl (by kernel_rfl) (by kernel_rfl) (by kernel_rfl) (fun _ _ _ h => h) rfl rfl hK.box (fun w' _ => exec_move _ rfl (.int .i64 (a : Int)) rfl) ?_
              go_frame
              refine held_yield 2 (some 31) (.int .i64 (b : Int)) rfl (by kernel_rfl) (by kernel_rfl) (by kernel_rfl) (fun _ _ _ h => h) rfl rfl hK.box (fun w' _ => exec_move _ rfl (.int .i64 (b : Int)) rfl) ?_
              go_frame
              refine held_yield 4 (some 33) (.agg #[.int .i64 p, .int .i64 n, .int .i64 m, .int .i64 k, .slice A qs.length cap]) rfl (by kernel_rfl) (by kernel_rfl) (by kernel_rfl) (fun _ _ _ h => h) rfl rfl hK.box (fun w' h' => exec_load_all 30 _ rfl w.heap.size rfl _ _ _ h' Try.underlying30 rfl 5 (by kernel_rfl) rfl) ?_
              go_frame
              refine held_yield 5 (some 34) (.int .i64 (a : Int)) rfl (by kernel_rfl) (by kernel_rfl) (by kernel_rfl) (fun _ _ _ h => h) rfl rfl hK.box (fun w' _ => exec_move _ rfl (.int .i64 (a : Int)) rfl) ?_
              go_frame
              refine held_yield 6 (some 35) (.int .i64 (b : Int)) rfl (by kernel_rfl) (by kernel_rfl) (by kernel_rfl) (fun _ _ _ h => h) rfl rfl hK.box (fun w' _ => exec_move _ rfl (.int .i64 (b : Int)) rfl) ?_
              go_frame
              refine held_three 3 8 9 (by kernel_rfl) rfl rfl rfl rfl rfl rfl (fun K' hK' => ?_) (fun K' hK' => ?_) (fun K' hK' => ?_)
              · refine wp_call3 (some 32) rfl 30 _ _ _ _ rfl call_left (.agg #[.int .i64 p, .int .i64 n, .int .i64 m, .int .i64 k, .slice A qs.length cap]) (.int .i64 (a : Int)) (.int .i64 (b : Int)) rfl rfl rfl _ (HL.out _ (hr.keep hK.below)) (fun e w6 h => ?_)
                obtain ⟨rfl, b6⟩ := h
                replace hK := hK.after b6
                refine ⟨_, rfl, hK' _ _ hK.box ?_⟩
                clear hK' K' b6
                go_frame
                refine held_three 7 8 9 (by kernel_rfl) rfl rfl rfl rfl rfl rfl (fun K' hK' => ?_) (fun K' hK' => ?_) (fun K' hK' => ?_)
                · refine wp_call3 (some 36) rfl 33 _ _ _ _ rfl call_right (.agg #[.int .i64 p, .int .i64 n, .int .i64 m, .int .i64 k, .slice A qs.length cap]) (.int .i64 (a : Int)) (.int .i64 (b : Int)) rfl rfl rfl _ (HR.out _ _) (fun e w7 h => ?_)
                  obtain ⟨rfl, b7⟩ := h
                  replace hK := hK.after b7
                  refine ⟨_, rfl, hK' _ _ hK.box ?_⟩
                  clear hK' K' b7
                  go_frame
                  refine held_two 8 9 (by kernel_rfl) rfl rfl rfl rfl (fun K' hK' => ?_) (fun K' hK' => ?_)
                  · refine wp_new (some 7) rfl (exec_alloc_form rfl) (fun wn nn => ?_)
                    have bn := nn.below (Below.refl _ _) (Nat.le_refl _)
                    have y7 := And.intro hK.box.lt hK.shp.lt
                    replace hK := hK.after bn
                    have z7 := nn.at_
                    refine hK' _ _ hK.box ?_
                    clear hK' K' bn nn
                    go_frame
                    refine held_oper 9 (by kernel_rfl) rfl rfl (fun K' hK' => ?_)
                    refine wp_new (some 8) rfl (exec_alloc_form rfl) (fun wn nn => ?_)
                    have bn := nn.below (Below.refl _ _) (Nat.le_refl _)
                    have y8 := And.intro hK.box.lt hK.shp.lt
                    have ne := Nat.ne_of_lt z7.lt
                    replace z7 := z7.after bn
                    replace hK := hK.after bn
                    have z8 := nn.at_
                    refine hK' _ _ hK.box ?_
                    clear hK' K' bn nn
                    go_frame
                    refine held_oper 10 (by kernel_rfl) rfl rfl (fun K' hK' => ?_)
                    refine wp_store_bytes 58 _ _ rfl rfl _ rfl _ rfl _ _ z7 9 (by kernel_rfl) hfb.len (by simp) (fun wp pp => ?_)
                    replace z8 := pp.other z8 ne.symm
                    replace z7 := pp.at_
                    replace hK := hK.put pp y7
                    refine hK' _ _ hK.box ?_
                    clear hK' K' pp
                    refine held_oper 11 (by kernel_rfl) rfl rfl (fun K' hK' => ?_)
                    refine wp_store_bytes 58 _ _ rfl rfl _ rfl _ rfl _ _ z8 9 (by kernel_rfl) hgb.len (by simp) (fun wp pp => ?_)
                    replace z7 := pp.other z7 ne
                    replace z8 := pp.at_
                    replace hK := hK.put pp y8
                    refine hK' _ _ hK.box ?_
                    clear hK' K' pp
                    refine wpAnyH_done (by kernel_rfl) ?_ _
                    go_wp2_with fail
                    go_meet
                    exact ⟨_, _, rfl, rfl, z7, z8, hK⟩
                  · refine wp_new (some 8) rfl (exec_alloc_form rfl) (fun wn nn => ?_)
                    have bn := nn.below (Below.refl _ _) (Nat.le_refl _)
                    have y8 := And.intro hK.box.lt hK.shp.lt
                    replace hK := hK.after bn
                    have z8 := nn.at_
                    refine hK' _ _ hK.box ?_
                    clear hK' K' bn nn
                    go_frame
                    refine held_oper 8 (by kernel_rfl) rfl rfl (fun K' hK' => ?_)
                    refine wp_new (some 7) rfl (exec_alloc_form rfl) (fun wn nn => ?_)
                    have bn := nn.below (Below.refl _ _) (Nat.le_refl _)
                    have y7 := And.intro hK.box.lt hK.shp.lt
                    have ne := (Nat.ne_of_lt z8.lt).symm
                    replace z8 := z8.after bn
                    replace hK := hK.after bn
                    have z7 := nn.at_
                    refine hK' _ _ hK.box ?_
                    clear hK' K' bn nn
                    go_frame
                    refine held_oper 10 (by kernel_rfl) rfl rfl (fun K' hK' => ?_)
                    refine wp_store_bytes 58 _ _ rfl rfl _ rfl _ rfl _ _ z7 9 (by kernel_rfl) hfb.len (by simp) (fun wp pp => ?_)
                    replace z8 := pp.other z8 ne.symm
                    replace z7 := pp.at_
                    replace hK := hK.put pp y7
                    refine hK' _ _ hK.box ?_
                    clear hK' K' pp
                    refine held_oper 11 (by kernel_rfl) rfl rfl (fun K' hK' => ?_)
                    refine wp_store_bytes 58 _ _ rfl rfl _ rfl _ rfl _ _ z8 9 (by kernel_rfl) hgb.len (by simp) (fun wp pp => ?_)
                    replace z7 := pp.other z7 ne
                    replace z8 := pp.at_
                    replace hK := hK.put pp y8
                    refine hK' _ _ hK.box ?_
                    clear hK' K' pp
                    refine wpAnyH_done (by kernel_rfl) ?_ _
                    go_wp2_with fail
                    go_meet
                    exact ⟨_, _, rfl, rfl, z7, z8, hK⟩
                · refine wp_new (some 7) rfl (exec_alloc_form rfl) (fun wn nn => ?_)
                  have bn := nn.below (Below.refl _ _) (Nat.le_refl _)
                  have y7 := And.intro hK.box.lt hK.shp.lt
                  replace hK := hK.after bn
                  have z7 := nn.at_
                  refine hK' _ _ hK.box ?_
                  clear hK' K' bn nn
                  go_frame
                  refine held_two 7 9 (by kernel_rfl) rfl rfl rfl rfl (fun K' hK' => ?_) (fun K' hK' => ?_)
                  · refine wp_call3 (some 36) rfl 33 _ _ _ _ rfl call_right (.agg #[.int .i64 p, .int .i64 n, .int .i64 m, .int .i64 k, .slice A qs.length cap]) (.int .i64 (a : Int)) (.int .i64 (b : Int)) rfl rfl rfl _ (HR.out _ _) (fun e w7 h => ?_)
                    obtain ⟨rfl, b7⟩ := h
                    replace z7 := z7.after b7
                    replace hK := hK.after b7
                    refine ⟨_, rfl, hK' _ _ hK.box ?_⟩
                    clear hK' K' b7
                    go_frame
                    refine held_oper 9 (by kernel_rfl) rfl rfl (fun K' hK' => ?_)
                    refine wp_new (some 8) rfl (exec_alloc_form rfl) (fun wn nn => ?_)
                    have bn := nn.below (Below.refl _ _) (Nat.le_refl _)
                    have y8 := And.intro hK.box.lt hK.shp.lt
                    have ne := Nat.ne_of_lt z7.lt
                    replace z7 := z7.after bn
                    replace hK := hK.after bn
                    have z8 := nn.at_
                    refine hK' _ _ hK.box ?_
                    clear hK' K' bn nn
                    go_frame
                    refine held_oper 10 (by kernel_rfl) rfl rfl (fun K' hK' => ?_)
                    refine wp_store_bytes 58 _ _ rfl rfl _ rfl _ rfl _ _ z7 9 (by kernel_rfl) hfb.len (by simp) (fun wp pp => ?_)
                    replace z8 := pp.other z8 ne.symm
                    replace z7 := pp.at_
                    replace hK := hK.put pp y7
                    refine hK' _ _ hK.box ?_
                    clear hK' K' pp
                    refine held_oper 11 (by kernel_rfl) rfl rfl (fun K' hK' => ?_)
                    refine wp_store_bytes 58 _ _ rfl rfl _ rfl _ rfl _ _ z8 9 (by kernel_rfl) hgb.len (by simp) (fun wp pp => ?_)
                    replace z7 := pp.other z7 ne
                    replace z8 := pp.at_
                    replace hK := hK.put pp y8
                    refine hK' _ _ hK.box ?_
                    clear hK' K' pp
                    refine wpAnyH_done (by kernel_rfl) ?_ _
                    go_wp2_with fail
                    go_meet
                    exact ⟨_, _, rfl, rfl, z7, z8, hK⟩
                  · refine wp_new (some 8) rfl (exec_alloc_form rfl) (fun wn nn => ?_)
                    have bn := nn.below (Below.refl _ _) (Nat.le_refl _)
                    have y8 := And.intro hK.box.lt hK.shp.lt
                    have ne := Nat.ne_of_lt z7.lt
                    replace z7 := z7.after bn
                    replace hK := hK.after bn
                    have z8 := nn.at_
                    refine hK' _ _ hK.box ?_
                    clear hK' K' bn nn
                    go_frame
                    refine held_oper 7 (by kernel_rfl) rfl rfl (fun K' hK' => ?_)
                    refine wp_call3 (some 36) rfl 33 _ _ _ _ rfl call_right (.agg #[.int .i64 p, .int .i64 n, .int .i64 m, .int .i64 k, .slice A qs.length cap]) (.int .i64 (a : Int)) (.int .i64 (b : Int)) rfl rfl rfl _ (HR.out _ _) (fun e w7 h => ?_)
                    obtain ⟨rfl, b7⟩ := h
                    replace z7 := z7.after b7
                    replace z8 := z8.after b7
                    replace hK := hK.after b7
                    refine ⟨_, rfl, hK' _ _ hK.box ?_⟩
                    clear hK' K' b7
                    go_frame
                    refine held_oper 10 (by kernel_rfl) rfl rfl (fun K' hK' => ?_)
                    refine wp_store_bytes 58 _ _ rfl rfl _ rfl _ rfl _ _ z7 9 (by kernel_rfl) hfb.len (by simp) (fun wp pp => ?_)
                    replace z8 := pp.other z8 ne.symm
                    replace z7 := pp.at_
                    replace hK := hK.put pp y7
                    refine hK' _ _ hK.box ?_
                    clear hK' K' pp
                    refine held_oper 11 (by kernel_rfl) rfl rfl (fun K' hK' => ?_)
                    refine wp_store_bytes 58 _ _ rfl rfl _ rfl _ rfl _ _ z8 9 (by kernel_rfl) hgb.len (by simp) (fun wp pp => ?_)
                    replace z7 := pp.other z7 ne
                    replace z8 := pp.at_
                    replace hK := hK.put pp y8
                    refine hK' _ _ hK.box ?_
                    clear hK' K' pp
                    refine wpAnyH_done (by kernel_rfl) ?_ _
                    go_wp2_with fail
                    go_meet
                    exact ⟨_, _, rfl, rfl, z7, z8, hK⟩
                · refine wp_new (some 8) rfl (exec_alloc_form rfl) (fun wn nn => ?_)
                  have bn := nn.below (Below.refl _ _) (Nat.le_refl _)
                  have y8 := And.intro hK.box.lt hK.shp.lt
                  replace hK := hK.after bn
                  have z8 := nn.at_
                  refine hK' _ _ hK.box ?_
                  clear hK' K' bn nn
                  go_frame
                  refine held_two 7 8 (by kernel_rfl) rfl rfl rfl rfl (fun K' hK' => ?_) (fun K' hK' => ?_)
                  · refine wp_call3 (some 36) rfl 33 _ _ _ _ rfl call_right (.agg #[.int .i64 p, .int .i64 n, .int .i64 m, .int .i64 k, .slice A qs.length cap]) (.int .i64 (a : Int)) (.int .i64 (b : Int)) rfl rfl rfl _ (HR.out _ _) (fun e w7 h => ?_)
                    obtain ⟨rfl, b7⟩ := h
                    replace z8 := z8.after b7
                    replace hK := hK.after b7
                    refine ⟨_, rfl, hK' _ _ hK.box ?_⟩
                    clear hK' K' b7
                    go_frame
                    refine held_oper 8 (by kernel_rfl) rfl rfl (fun K' hK' => ?_)
                    refine wp_new (some 7) rfl (exec_alloc_form rfl) (fun wn nn => ?_)
                    have bn := nn.below (Below.refl _ _) (Nat.le_refl _)
                    have y7 := And.intro hK.box.lt hK.shp.lt
                    have ne := (Nat.ne_of_lt z8.lt).symm
                    replace z8 := z8.after bn
                    replace hK := hK.after bn
                    have z7 := nn.at_
                    refine hK' _ _ hK.box ?_
                    clear hK' K' bn nn
                    go_frame
                    refine held_oper 10 (by kernel_rfl) rfl rfl (fun K' hK' => ?_)
                    refine wp_store_bytes 58 _ _ rfl rfl _ rfl _ rfl _ _ z7 9 (by kernel_rfl) hfb.len (by simp) (fun wp pp => ?_)
                    replace z8 := pp.other z8 ne.symm
                    replace z7 := pp.at_
                    replace hK := hK.put pp y7
                    refine hK' _ _ hK.box ?_
                    clear hK' K' pp
                    refine held_oper 11 (by kernel_rfl) rfl rfl (fun K' hK' => ?_)
                    refine wp_store_bytes 58 _ _ rfl rfl _ rfl _ rfl _ _ z8 9 (by kernel_rfl) hgb.len (by simp) (fun wp pp => ?_)
                    replace z7 := pp.other z7 ne
                    replace z8 := pp.at_
                    replace hK := hK.put pp y8
                    refine hK' _ _ hK.box ?_
                    clear hK' K' pp
                    refine wpAnyH_done (by kernel_rfl) ?_ _
                    go_wp2_with fail
                    go_meet
                    exact ⟨_, _, rfl, rfl, z7, z8, hK⟩
                  · refine wp_new (some 7) rfl (exec_alloc_form rfl) (fun wn nn => ?_)
                    have bn := nn.below (Below.refl _ _) (Nat.le_refl _)
                    have y7 := And.intro hK.box.lt hK.shp.lt
                    have ne := (Nat.ne_of_lt z8.lt).symm
                    replace z8 := z8.after bn
                    replace hK := hK.after bn
                    have z7 := nn.at_
                    refine hK' _ _ hK.box ?_
                    clear hK' K' bn nn
                    go_frame
                    refine held_oper 7 (by kernel_rfl) rfl rfl (fun K' hK' => ?_)
                    refine wp_call3 (some 36) rfl 33 _ _ _ _ rfl call_right (.agg #[.int .i64 p, .int .i64 n, .int .i64 m, .int .i64 k, .slice A qs.length cap]) (.int .i64 (a : Int)) (.int .i64 (b : Int)) rfl rfl rfl _ (HR.out _ _) (fun e w7 h => ?_)
                    obtain ⟨rfl, b7⟩ := h
                    replace z7 := z7.after b7
                    replace z8 := z8.after b7
                    replace hK := hK.after b7
                    refine ⟨_, rfl, hK' _ _ hK.box ?_⟩
                    clear hK' K' b7
                    go_frame
                    refine held_oper 10 (by kernel_rfl) rfl rfl (fun K' hK' => ?_)
                    refine wp_store_bytes 58 _ _ rfl rfl _ rfl _ rfl _ _ z7 9 (by kernel_rfl) hfb.len (by simp) (fun wp pp => ?_)
                    replace z8 := pp.other z8 ne.symm
                    replace z7 := pp.at_
                    replace hK := hK.put pp y7
                    refine hK' _ _ hK.box ?_
                    clear hK' K' pp
                    refine held_oper 11 (by kernel_rfl) rfl rfl (fun K' hK' => ?_)
                    refine wp_store_bytes 58 _ _ rfl rfl _ rfl _ rfl _ _ z8 9 (by kernel_rfl) hgb.len (by simp) (fun wp pp => ?_)
                    replace z7 := pp.other z7 ne
                    replace z8 := pp.at_
                    replace hK := hK.put pp y8
                    refine hK' _ _ hK.box ?_
                    clear hK' K' pp
                    refine wpAnyH_done (by kernel_rfl) ?_ _
                    go_wp2_with fail
                    go_meet
                    exact ⟨_, _, rfl, rfl, z7, z8, hK⟩
              · refine wp_new (some 7) rfl (exec_alloc_form rfl) (fun wn nn => ?_)
                have bn := nn.below (Below.refl _ _) (Nat.le_refl _)
                have y7 := And.intro hK.box.lt hK.shp.lt
                replace hK := hK.after bn
                have z7 := nn.at_
                refine hK' _ _ hK.box ?_
                clear hK' K' bn nn
                go_frame
                refine held_two 3 9 (by kernel_rfl) rfl rfl rfl rfl (fun K' hK' => ?_) (fun K' hK' => ?_)
                · refine wp_call3 (some 32) rfl 30 _ _ _ _ rfl call_left (.agg #[.int .i64 p, .int .i64 n, .int .i64 m, .int .i64 k, .slice A qs.length cap]) (.int .i64 (a : Int)) (.int .i64 (b : Int)) rfl rfl rfl _ (HL.out _ (hr.keep hK.below)) (fun e w6 h => ?_)
                  obtain ⟨rfl, b6⟩ := h
                  replace z7 := z7.after b6
                  replace hK := hK.after b6
                  refine ⟨_, rfl, hK' _ _ hK.box ?_⟩
                  clear hK' K' b6
                  go_frame
                  refine held_two 7 9 (by kernel_rfl) rfl rfl rfl rfl (fun K' hK' => ?_) (fun K' hK' => ?_)
                  · refine wp_call3 (some 36) rfl 33 _ _ _ _ rfl call_right (.agg #[.int .i64 p, .int .i64 n, .int .i64 m, .int .i64 k, .slice A qs.length cap]) (.int .i64 (a : Int)) (.int .i64 (b : Int)) rfl rfl rfl _ (HR.out _ _) (fun e w7 h => ?_)
                    obtain ⟨rfl, b7⟩ := h
                    replace z7 := z7.after b7
                    replace hK := hK.after b7
                    refine ⟨_, rfl, hK' _ _ hK.box ?_⟩
                    clear hK' K' b7
                    go_frame
                    refine held_oper 9 (by kernel_rfl) rfl rfl (fun K' hK' => ?_)
                    refine wp_new (some 8) rfl (exec_alloc_form rfl) (fun wn nn => ?_)
                    have bn := nn.below (Below.refl _ _) (Nat.le_refl _)
                    have y8 := And.intro hK.box.lt hK.shp.lt
                    have ne := Nat.ne_of_lt z7.lt
                    replace z7 := z7.after bn
                    replace hK := hK.after bn
                    have z8 := nn.at_
                    refine hK' _ _ hK.box ?_
                    clear hK' K' bn nn
                    go_frame
                    refine held_oper 10 (by kernel_rfl) rfl rfl (fun K' hK' => ?_)
                    refine wp_store_bytes 58 _ _ rfl rfl _ rfl _ rfl _ _ z7 9 (by kernel_rfl) hfb.len (by simp) (fun wp pp => ?_)
                    replace z8 := pp.other z8 ne.symm
                    replace z7 := pp.at_
                    replace hK := hK.put pp y7
                    refine hK' _ _ hK.box ?_
                    clear hK' K' pp
                    refine held_oper 11 (by kernel_rfl) rfl rfl (fun K' hK' => ?_)
                    refine wp_store_bytes 58 _ _ rfl rfl _ rfl _ rfl _ _ z8 9 (by kernel_rfl) hgb.len (by simp) (fun wp pp => ?_)
                    replace z7 := pp.other z7 ne
                    replace z8 := pp.at_
                    replace hK := hK.put pp y8
                    refine hK' _ _ hK.box ?_
                    clear hK' K' pp
                    refine wpAnyH_done (by kernel_rfl) ?_ _
                    go_wp2_with fail
                    go_meet
                    exact ⟨_, _, rfl, rfl, z7, z8, hK⟩
                  · refine wp_new (some 8) rfl (exec_alloc_form rfl) (fun wn nn => ?_)
                    have bn := nn.below (Below.refl _ _) (Nat.le_refl _)
                    have y8 := And.intro hK.box.lt hK.shp.lt
                    have ne := Nat.ne_of_lt z7.lt
                    replace z7 := z7.after bn
                    replace hK := hK.after bn
                    have z8 := nn.at_
                    refine hK' _ _ hK.box ?_
                    clear hK' K' bn nn
                    go_frame
                    refine held_oper 7 (by kernel_rfl) rfl rfl (fun K' hK' => ?_)
                    refine wp_call3 (some 36) rfl 33 _ _ _ _ rfl call_right (.agg #[.int .i64 p, .int .i64 n, .int .i64 m, .int .i64 k, .slice A qs.length cap]) (.int .i64 (a : Int)) (.int .i64 (b : Int)) rfl rfl rfl _ (HR.out _ _) (fun e w7 h => ?_)
                    obtain ⟨rfl, b7⟩ := h
                    replace z7 := z7.after b7
                    replace z8 := z8.after b7
                    replace hK := hK.after b7
                    refine ⟨_, rfl, hK' _ _ hK.box ?_⟩
                    clear hK' K' b7
                    go_frame
                    refine held_oper 10 (by kernel_rfl) rfl rfl (fun K' hK' => ?_)
                    refine wp_store_bytes 58 _ _ rfl rfl _ rfl _ rfl _ _ z7 9 (by kernel_rfl) hfb.len (by simp) (fun wp pp => ?_)
                    replace z8 := pp.other z8 ne.symm
                    replace z7 := pp.at_
                    replace hK := hK.put pp y7
                    refine hK' _ _ hK.box ?_
                    clear hK' K' pp
                    refine held_oper 11 (by kernel_rfl) rfl rfl (fun K' hK' => ?_)
                    refine wp_store_bytes 58 _ _ rfl rfl _ rfl _ rfl _ _ z8 9 (by kernel_rfl) hgb.len (by simp) (fun wp pp => ?_)
                    replace z7 := pp.other z7 ne
                    replace z8 := pp.at_
                    replace hK := hK.put pp y8
                    refine hK' _ _ hK.box ?_
                    clear hK' K' pp
                    refine wpAnyH_done (by kernel_rfl) ?_ _
                    go_wp2_with fail
                    go_meet
                    exact ⟨_, _, rfl, rfl, z7, z8, hK⟩
                · refine wp_new (some 8) rfl (exec_alloc_form rfl) (fun wn nn => ?_)
                  have bn := nn.below (Below.refl _ _) (Nat.le_refl _)
                  have y8 := And.intro hK.box.lt hK.shp.lt
                  have ne := Nat.ne_of_lt z7.lt
                  replace z7 := z7.after bn
                  replace hK := hK.after bn
                  have z8 := nn.at_
                  refine hK' _ _ hK.box ?_
                  clear hK' K' bn nn
                  go_frame
                  refine held_oper 3 (by kernel_rfl) rfl rfl (fun K' hK' => ?_)
                  refine wp_call3 (some 32) rfl 30 _ _ _ _ rfl call_left (.agg #[.int .i64 p, .int .i64 n, .int .i64 m, .int .i64 k, .slice A qs.length cap]) (.int .i64 (a : Int)) (.int .i64 (b : Int)) rfl rfl rfl _ (HL.out _ (hr.keep hK.below)) (fun e w6 h => ?_)
                  obtain ⟨rfl, b6⟩ := h
                  replace z7 := z7.after b6
                  replace z8 := z8.after b6
                  replace hK := hK.after b6
                  refine ⟨_, rfl, hK' _ _ hK.box ?_⟩
                  clear hK' K' b6
                  go_frame
                  refine held_oper 7 (by kernel_rfl) rfl rfl (fun K' hK' => ?_)
                  refine wp_call3 (some 36) rfl 33 _ _ _ _ rfl call_right (.agg #[.int .i64 p, .int .i64 n, .int .i64 m, .int .i64 k, .slice A qs.length cap]) (.int .i64 (a : Int)) (.int .i64 (b : Int)) rfl rfl rfl _ (HR.out _ _) (fun e w7 h => ?_)
                  obtain ⟨rfl, b7⟩ := h
                  replace z7 := z7.after b7
                  replace z8 := z8.after b7
                  replace hK := hK.after b7
                  refine ⟨_, rfl, hK' _ _ hK.box ?_⟩
                  clear hK' K' b7
                  go_frame
                  refine held_oper 10 (by kernel_rfl) rfl rfl (fun K' hK' => ?_)
                  refine wp_store_bytes 58 _ _ rfl rfl _ rfl _ rfl _ _ z7 9 (by kernel_rfl) hfb.len (by simp) (fun wp pp => ?_)
                  replace z8 := pp.other z8 ne.symm
                  replace z7 := pp.at_
                  replace hK := hK.put pp y7
                  refine hK' _ _ hK.box ?_
                  clear hK' K' pp
                  refine held_oper 11 (by kernel_rfl) rfl rfl (fun K' hK' => ?_)
                  refine wp_store_bytes 58 _ _ rfl rfl _ rfl _ rfl _ _ z8 9 (by kernel_rfl) hgb.len (by simp) (fun wp pp => ?_)
                  replace z7 := pp.other z7 ne
                  replace z8 := pp.at_
                  replace hK := hK.put pp y8
                  refine hK' _ _ hK.box ?_
                  clear hK' K' pp
                  refine wpAnyH_done (by kernel_rfl) ?_ _
                  go_wp2_with fail
                  go_meet
                  exact ⟨_, _, rfl, rfl, z7, z8, hK⟩
              · refine wp_new (some 8) rfl (exec_alloc_form rfl) (fun wn nn => ?_)
                have bn := nn.below (Below.refl _ _) (Nat.le_refl _)
                have y8 := And.intro hK.box.lt hK.shp.lt
                replace hK := hK.after bn
                have z8 := nn.at_
                refine hK' _ _ hK.box ?_
                clear hK' K' bn nn
                go_frame
                refine held_two 3 8 (by kernel_rfl) rfl rfl rfl rfl (fun K' hK' => ?_) (fun K' hK' => ?_)
                · refine wp_call3 (some 32) rfl 30 _ _ _ _ rfl call_left (.agg #[.int .i64 p, .int .i64 n, .int .i64 m, .int .i64 k, .slice A qs.length cap]) (.int .i64 (a : Int)) (.int .i64 (b : Int)) rfl rfl rfl _ (HL.out _ (hr.keep hK.below)) (fun e w6 h => ?_)
                  obtain ⟨rfl, b6⟩ := h
                  replace z8 := z8.after b6
                  replace hK := hK.after b6
                  refine ⟨_, rfl, hK' _ _ hK.box ?_⟩
                  clear hK' K' b6
                  go_frame
                  refine held_two 7 8 (by kernel_rfl) rfl rfl rfl rfl (fun K' hK' => ?_) (fun K' hK' => ?_)
                  · refine wp_call3 (some 36) rfl 33 _ _ _ _ rfl call_right (.agg #[.int .i64 p, .int .i64 n, .int .i64 m, .int .i64 k, .slice A qs.length cap]) (.int .i64 (a : Int)) (.int .i64 (b : Int)) rfl rfl rfl _ (HR.out _ _) (fun e w7 h => ?_)
                    obtain ⟨rfl, b7⟩ := h
                    replace z8 := z8.after b7
                    replace hK := hK.after b7
                    refine ⟨_, rfl, hK' _ _ hK.box ?_⟩
                    clear hK' K' b7
                    go_frame
                    refine held_oper 8 (by kernel_rfl) rfl rfl (fun K' hK' => ?_)
                    refine wp_new (some 7) rfl (exec_alloc_form rfl) (fun wn nn => ?_)
                    have bn := nn.below (Below.refl _ _) (Nat.le_refl _)
                    have y7 := And.intro hK.box.lt hK.shp.lt
                    have ne := (Nat.ne_of_lt z8.lt).symm
                    replace z8 := z8.after bn
                    replace hK := hK.after bn
                    have z7 := nn.at_
                    refine hK' _ _ hK.box ?_
                    clear hK' K' bn nn
                    go_frame
                    refine held_oper 10 (by kernel_rfl) rfl rfl (fun K' hK' => ?_)
                    refine wp_store_bytes 58 _ _ rfl rfl _ rfl _ rfl _ _ z7 9 (by kernel_rfl) hfb.len (by simp) (fun wp pp => ?_)
                    replace z8 := pp.other z8 ne.symm
                    replace z7 := pp.at_
                    replace hK := hK.put pp y7
                    refine hK' _ _ hK.box ?_
                    clear hK' K' pp
                    refine held_oper 11 (by kernel_rfl) rfl rfl (fun K' hK' => ?_)
                    refine wp_store_bytes 58 _ _ rfl rfl _ rfl _ rfl _ _ z8 9 (by kernel_rfl) hgb.len (by simp) (fun wp pp => ?_)
                    replace z7 := pp.other z7 ne
                    replace z8 := pp.at_
                    replace hK := hK.put pp y8
                    refine hK' _ _ hK.box ?_
                    clear hK' K' pp
                    refine wpAnyH_done (by kernel_rfl) ?_ _
                    go_wp2_with fail
                    go_meet
                    exact ⟨_, _, rfl, rfl, z7, z8, hK⟩
                  · refine wp_new (some 7) rfl (exec_alloc_form rfl) (fun wn nn => ?_)
                    have bn := nn.below (Below.refl _ _) (Nat.le_refl _)
                    have y7 := And.intro hK.box.lt hK.shp.lt
                    have ne := (Nat.ne_of_lt z8.lt).symm
                    replace z8 := z8.after bn
                    replace hK := hK.after bn
                    have z7 := nn.at_
                    refine hK' _ _ hK.box ?_
                    clear hK' K' bn nn
                    go_frame
                    refine held_oper 7 (by kernel_rfl) rfl rfl (fun K' hK' => ?_)
                    refine wp_call3 (some 36) rfl 33 _ _ _ _ rfl call_right (.agg #[.int .i64 p, .int .i64 n, .int .i64 m, .int .i64 k, .slice A qs.length cap]) (.int .i64 (a : Int)) (.int .i64 (b : Int)) rfl rfl rfl _ (HR.out _ _) (fun e w7 h => ?_)
                    obtain ⟨rfl, b7⟩ := h
                    replace z7 := z7.after b7
                    replace z8 := z8.after b7
                    replace hK := hK.after b7
                    refine ⟨_, rfl, hK' _ _ hK.box ?_⟩
                    clear hK' K' b7
                    go_frame
                    refine held_oper 10 (by kernel_rfl) rfl rfl (fun K' hK' => ?_)
                    refine wp_store_bytes 58 _ _ rfl rfl _ rfl _ rfl _ _ z7 9 (by kernel_rfl) hfb.len (by simp) (fun wp pp => ?_)
                    replace z8 := pp.other z8 ne.symm
                    replace z7 := pp.at_
                    replace hK := hK.put pp y7
                    refine hK' _ _ hK.box ?_
                    clear hK' K' pp
                    refine held_oper 11 (by kernel_rfl) rfl rfl (fun K' hK' => ?_)
                    refine wp_store_bytes 58 _ _ rfl rfl _ rfl _ rfl _ _ z8 9 (by kernel_rfl) hgb.len (by simp) (fun wp pp => ?_)
                    replace z7 := pp.other z7 ne
                    replace z8 := pp.at_
                    replace hK := hK.put pp y8
                    refine hK' _ _ hK.box ?_
                    clear hK' K' pp
                    refine wpAnyH_done (by kernel_rfl) ?_ _
                    go_wp2_with fail
                    go_meet
                    exact ⟨_, _, rfl, rfl, z7, z8, hK⟩
                · refine wp_new (some 7) rfl (exec_alloc_form rfl) (fun wn nn => ?_)
                  have bn := nn.below (Below.refl _ _) (Nat.le_refl _)
                  have y7 := And.intro hK.box.lt hK.shp.lt
                  have ne := (Nat.ne_of_lt z8.lt).symm
                  replace z8 := z8.after bn
                  replace hK := hK.after bn
                  have z7 := nn.at_
                  refine hK' _ _ hK.box ?_
                  clear hK' K' bn nn
                  go_frame
                  refine held_oper 3 (by kernel_rfl) rfl rfl (fun K' hK' => ?_)
                  refine wp_call3 (some 32) rfl 30 _ _ _ _ rfl call_left (.agg #[.int .i64 p, .int .i64 n, .int .i64 m, .int .i64 k, .slice A qs.length cap]) (.int .i64 (a : Int)) (.int .i64 (b : Int)) rfl rfl rfl _ (HL.out _ (hr.keep hK.below)) (fun e w6 h => ?_)
                  obtain ⟨rfl, b6⟩ := h
                  replace z7 := z7.after b6
                  replace z8 := z8.after b6
                  replace hK := hK.after b6
                  refine ⟨_, rfl, hK' _ _ hK.box ?_⟩
                  clear hK' K' b6
                  go_frame
                  refine held_oper 7 (by kernel_rfl) rfl rfl (fun K' hK' => ?_)
                  refine wp_call3 (some 36) rfl 33 _ _ _ _ rfl call_right (.agg #[.int .i64 p, .int .i64 n, .int .i64 m, .int .i64 k, .slice A qs.length cap]) (.int .i64 (a : Int)) (.int .i64 (b : Int)) rfl rfl rfl _ (HR.out _ _) (fun e w7 h => ?_)
                  obtain ⟨rfl, b7⟩ := h
                  replace z7 := z7.after b7
                  replace z8 := z8.after b7
                  replace hK := hK.after b7
                  refine ⟨_, rfl, hK' _ _ hK.box ?_⟩
                  clear hK' K' b7
                  go_frame
                  refine held_oper 10 (by kernel_rfl) rfl rfl (fun K' hK' => ?_)
                  refine wp_store_bytes 58 _ _ rfl rfl _ rfl _ rfl _ _ z7 9 (by kernel_rfl) hfb.len (by simp) (fun wp pp => ?_)
                  replace z8 := pp.other z8 ne.symm
                  replace z7 := pp.at_
                  replace hK := hK.put pp y7
                  refine hK' _ _ hK.box ?_
                  clear hK' K' pp
                  refine held_oper 11 (by kernel_rfl) rfl rfl (fun K' hK' => ?_)
                  refine wp_store_bytes 58 _ _ rfl rfl _ rfl _ rfl _ _ z8 9 (by kernel_rfl) hgb.len (by simp) (fun wp pp => ?_)
                  replace z7 := pp.other z7 ne
                  replace z8 := pp.at_
                  replace hK := hK.put pp y8
                  refine hK' _ _ hK.box ?_
                  clear hK' K' pp
                  refine wpAnyH_done (by kernel_rfl) ?_ _
                  go_wp2_with fail
                  go_meet
                  exact ⟨_, _, rfl, rfl, z7, z8, hK⟩
            case rest =>
              clear hK HL HR
              obtain ⟨g7, g8, rfl, rfl, z7, z8, hK⟩ := hcut
              go_wp2_with (refine wpList_of_exec rfl (exec_load_lit 52 _ rfl g 4 rfl _ _ _ 2 hK.shp Try.underlying52 rfl (by kernel_rfl) (by simp) #[.int .i64 n, .int .i64 k] rfl) ?_)
              refine (H3.out _).mono ?_
              rintro e w8 ⟨rfl, c1⟩
              replace hK := hK.after c1
              replace z7 := z7.after c1
              replace z8 := z8.after c1
              clear c1
              rw [← E3.out]
              go_wp2_with fail
              go_loopg [3, 40] N3 (fun gk s3 s40 wx => ∃ c : Nat, c + gk = N3 ∧ s40 = .int .i64 c ∧ s3 = .slice none 0 0 ∧ (runC W (runB W N3 (runA W N2 N3 a) a b) a b c).1 = 0 ∧ At wx g7 (.cells (u8s ff) 58 (0, 0)) ∧ At wx g8 (.cells (u8s gg) 58 (0, 0)) ∧ KC w p n m k A qs.length cap g wx)
              case atStart => exact ⟨0, by omega, rfl, rfl, HZ2.out, z7, z8, hK⟩
              case round =>
                clear hK z7 z8
                obtain ⟨c, hcg, rfl, rfl, hz3, z7, z8, hK⟩ := hrel
                have HZ3 := Lib.hid hz3
                clear hz3
                cases gk with
                | zero =>
                  obtain rfl : c = N3 := by omega
                  go_wp2_with fail
                  go_roundg gb
                  case measure => omega
                  case rel => exact ⟨b + 1, by omega, by go_num, rfl, HZ3.out, hK⟩
                | succ gc =>
                  have hlt3 : c < N3 := by omega
                  have g0 : IntKind.i64.wrap ((c : Int) + 1) = (c : Int) + 1 := IntWalk.i64_in _ (by omega)
                  have x0 := z7.cell (i := c) (by rw [hfb.len]; omega)
                  have y0 := z8.cell (i := c) (by rw [hgb.len]; omega)
                  have hc9 : c < 9 := by omega
                  have HWc := Lib.hid (HWb.out c hlt3)
                  generalize ff[c]?.getD 0 = x at *
                  generalize gg[c]?.getD 0 = y at *
                  go_wp2_with fail
                  go_quiet (fail)
                  by_cases hxy : x = y
                  · have hb2 : ((x : Int) != (y : Int)) = false := by simp [hxy]
                    have Hn : Hid (W a b c = false) := Lib.hid (by rw [HWc.out]; simp [hxy])
                    clear hxy
                    go_wp2_with fail
                    go_roundg gc
                    case measure => omega
                    case rel => exact ⟨c + 1, by omega, by go_num, rfl, runC_zero HZ3.out Hn.out, z7.drewN _, z8.drewN _, hK.drewN _⟩
                  · have hb2 : ((x : Int) != (y : Int)) = true := by simp; omega
                    have Hn : Hid (W a b c = true) := Lib.hid (by rw [HWc.out]; simp [hxy])
                    clear hxy
                    go_wp2_with fail
                    go_roundg gk
                    case measure => omega
                    case rel => exact ⟨a + 1, by omega, by go_num, (hK.drewN _).after (below1 _ _), .inr ⟨(a, b, c), ⟨_, rfl, hK.below.size, al1_0 _ _⟩, found_at hlt hlt2 hlt3 HZ3.out Hn.out⟩⟩
      · replace hv := hv.after c1
        obtain ⟨g0, rfl⟩ := hv.val
        have Hn : Hid ((wrS p n m k qs).2 = some t) := Lib.hid (by rw [Hw.out]; exact ht)
        clear ht
        go_wp2_with (refine wpList_want_exec rfl (exec_eql_nil 38 _ 2 _ _ rfl Try.underlying38 (some ⟨g0, 0, none⟩) 3 3 rfl rfl) ?_)
        try rw [Exit.noGoto_ret]
        go_ret
        exact ⟨_, rfl, by rw [Hn.out]; exact hv, hK.below⟩
end Go.Proofs.Ytdcgkmfkbdhfhaa
