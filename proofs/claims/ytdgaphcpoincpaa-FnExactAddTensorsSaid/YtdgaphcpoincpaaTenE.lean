/-
  spec.AddTensors, where it adds. (Made by mktend.py.)
-/
import Derived.Test.YtdgaphcpoincpaaTenD
namespace Go.Proofs.Ytdgaphcpoincpaa
open Go.RowKit
set_option maxRecDepth 100000
set_option maxHeartbeats 1600000 in
theorem specAdd_y (p : Int) (n0 n1 n2 : Nat) (A : Option Addr) (cap : Nat) (xs : List Int) (B : Option Addr) (cap2 : Nat) (ys : List Int) (kk : Int) (w : World) (hr : RdI w A xs) (hn : xs.length ≤ 1048576) (hs : RdI w B ys) (hm : ys.length ≤ 1048576)
    (htx : tenB p n0 n1 n2 xs = true) (hty : tenB p n0 n1 n2 ys = true) (hk : inB kk p = true) :
    Calls Try.prog 18 #[.agg #[.int .i64 p, .int .i64 n0, .int .i64 n1, .int .i64 n2, .slice A xs.length cap], .agg #[.int .i64 p, .int .i64 n0, .int .i64 n1, .int .i64 n2, .slice B ys.length cap2], .int .i64 kk] w (ResT w (adZ p n0 n1 n2 xs p n0 n1 n2 ys kk p) (adZ p n0 n1 n2 xs p n0 n1 n2 ys kk n0) (adZ p n0 n1 n2 xs p n0 n1 n2 ys kk n1) (adZ p n0 n1 n2 xs p n0 n1 n2 ys kk n2) (adR p n0 n1 n2 xs p n0 n1 n2 ys kk) (adCode p n0 n1 n2 xs p n0 n1 n2 ys kk)) := by
  obtain ⟨p1, p2, a0, a1, a2, hlx, hx⟩ := tenB_n3 htx
  obtain ⟨_, _, _, _, _, hly, hy⟩ := tenB_n3 hty
  have hck : ckCode p n0 n1 n2 xs p n0 n1 n2 ys = 0 := by unfold ckCode; rw [if_pos htx, if_pos hty, if_pos rfl]
  have hkk := inB_iff.1 hk
  have Hcode : Hid (adCode p n0 n1 n2 xs p n0 n1 n2 ys kk = 0) := Lib.hid (by simp [adCode, hck, hk])
  have Hz : Hid (∀ x, adZ p n0 n1 n2 xs p n0 n1 n2 ys kk x = x) := Lib.hid (fun x => by simp [adZ, Hcode.out])
  have HX := Lib.hid (fun w' (hb : Below w.heap.size w w') => l05Is_c p n0 n1 n2 A cap xs w' (hr.keep hb) hn)
  have HY := Lib.hid (fun w' (hb : Below w.heap.size w w') => l05Is_c p n0 n1 n2 B cap2 ys w' (hs.keep hb) hm)
  have HK := Lib.hid (l01In_num kk p (p - 1) rfl)
  rw [htx] at HX
  rw [hty] at HY
  rw [hk] at HK
  have e9 : IntKind.i64.wrap (p - 1) = p - 1 := IntWalk.i64_in _ (by omega)
  have f0 : (p != p) = false := by simp
  have f1 : ((n0 : Int) != n0) = false := by simp
  have f2 : ((n1 : Int) != n1) = false := by simp
  have f3 : ((n2 : Int) != n2) = false := by simp
  have HE := Lib.hid (fun w => l05Empty_c p n0 n1 n2 w a0.2 a1.2 a2.2)
  obtain ⟨F, hF⟩ : ∃ F : Nat → Int, F = fun t : Nat => (nthI xs (t : Int) + kk * nthI ys (t : Int)) % p := ⟨_, rfl⟩
  have HF := Lib.hid (fun t : Nat => congrFun hF t)
  have hN : n0 * n1 * n2 ≤ 729 := places_729 a0.2 a1.2 a2.2
  have Hr : Hid (adR p n0 n1 n2 xs p n0 n1 n2 ys kk = seqP F (n0 * n1 * n2) (n0 * n1 * n2)) := Lib.hid (by
    have h : adR p n0 n1 n2 xs p n0 n1 n2 ys kk = genL n1 n2 p (addF n1 n2 kk xs ys) (n0 * n1 * n2) := by simp [adR, Hcode.out]
    rw [h, seqP_end]
    refine genL_map fun t _ => ?_
    unfold addF at3
    rw [place_back, HF.out])
  have HBX := Lib.hid (fun t : Nat => numsB_nth hx (by omega) (t : Int))
  have HBY := Lib.hid (fun t : Nat => numsB_nth hy (by omega) (t : Int))
  have HRx := Lib.hid hr
  have HRy := Lib.hid hs
  have HLx := Lib.hid hlx
  have HLy := Lib.hid hly
  clear hck hk htx hty hx hy hr hs hF hlx hly
  obtain ⟨N, HNe⟩ : ∃ N : Nat, Hid (n0 * n1 * n2 = N) := ⟨_, Lib.hid rfl⟩
  rw [HNe.out] at hN Hr HLx HLy
  have HZ := Lib.hid (seqP_zero F N)
  go_enter Try.func18, Try.ntmps18
  go_wp2_with (first | (refine wpList_abs3 ?_; intro W hsz hB h0 h1 h2; have z0 : W.heap.size = w.heap.size + 1 + 1 + 1 := hsz; clear hsz) | (refine wpList_load_all rfl 27 _ rfl w.heap.size rfl _ _ _ h0 Try.underlying27 rfl 5 (by kernel_rfl) rfl ?_))
  refine (HX.out _ hB).mono ?_
  rintro e0 w1 ⟨rfl, b1⟩
  replace hB := below_after hB b1
  replace h0 := h0.after b1
  replace h1 := h1.after b1
  replace h2 := h2.after b1
  clear b1
  go_wp2_with (refine wpList_want_exec rfl (exec_load_all 27 _ rfl (w.heap.size + 1) rfl _ _ _ (by exact h1) Try.underlying27 rfl 5 (by kernel_rfl) rfl) ?_)
  refine (HY.out _ hB).mono ?_
  rintro e0 w2 ⟨rfl, b2⟩
  replace hB := below_after hB b2
  replace h0 := h0.after b2
  replace h1 := h1.after b2
  replace h2 := h2.after b2
  clear b2
  have x0 : w2.cell? ⟨w.heap.size, 0, none⟩ = some (.int .i64 p) := h0.at_ 0
  have y0 : w2.cell? ⟨w.heap.size + 1, 0, none⟩ = some (.int .i64 p) := h1.at_ 0
  have x1 : w2.cell? ⟨w.heap.size, 1, none⟩ = some (.int .i64 n0) := h0.at_ 1
  have y1 : w2.cell? ⟨w.heap.size + 1, 1, none⟩ = some (.int .i64 n0) := h1.at_ 1
  have x2 : w2.cell? ⟨w.heap.size, 2, none⟩ = some (.int .i64 n1) := h0.at_ 2
  have y2 : w2.cell? ⟨w.heap.size + 1, 2, none⟩ = some (.int .i64 n1) := h1.at_ 2
  have x3 : w2.cell? ⟨w.heap.size, 3, none⟩ = some (.int .i64 n2) := h0.at_ 3
  have y3 : w2.cell? ⟨w.heap.size + 1, 3, none⟩ = some (.int .i64 n2) := h1.at_ 3
  go_wp2_with fail
  refine (HK.out _).mono ?_
  rintro e0 w3 ⟨rfl, rfl⟩
  go_wp2_with fail
  refine (HE.out _).mono ?_
  rintro e w4 ⟨g, rfl, hg, hL, b4⟩
  rw [HNe.out, ← HZ.out] at hL
  have z1 : w.heap.size + 1 + 1 + 1 ≤ g := by have := h2.lt; omega
  have z2 : g < w4.heap.size := hL.lt
  replace hB := below_after hB b4
  replace h0 := h0.after b4
  replace h1 := h1.after b4
  replace h2 := h2.after b4
  clear b4 x0 x1 x2 x3 y0 y1 y2 y3 hg
  rw [HNe.out]
  go_wp2_with (first | (refine wpList_abs1 ?_; intro W2 hsz2 hB2 h3; have z3 : W2.heap.size = w4.heap.size + 1 := hsz2; replace h0 := h0.after hB2; replace h1 := h1.after hB2; replace h2 := h2.after hB2; replace hL := hL.after hB2; replace hB := below_after hB hB2; clear hsz2 hB2) | (refine wpList_store_all rfl 27 _ _ rfl rfl w4.heap.size rfl _ rfl _ _ h3 5 (by kernel_rfl) rfl rfl (by simp [Value.oneCell']) ?_; intro W3 p3; replace h0 := p3.other h0 (by omega); replace h1 := p3.other h1 (by omega); replace h2 := p3.other h2 (by omega); replace hL := p3.other hL (by omega); replace hB := p3.below hB (by omega); replace h3 := p3.at_; clear p3 z3))
  obtain ⟨b3, hb3⟩ : ∃ b3, b3 = w4.heap.size := ⟨_, rfl⟩
  rw [← hb3] at h3 z2 ⊢
  clear hb3
  go_loopw [9] (fun i wr => ∃ a : Nat, a ≤ N ∧ i = .int .i64 a ∧ Below w.heap.size w wr ∧ At wr w.heap.size (.cells #[.int .i64 p, .int .i64 n0, .int .i64 n1, .int .i64 n2, .slice A xs.length cap] 27 (0, 0)) ∧ At wr (w.heap.size + 1) (.cells #[.int .i64 p, .int .i64 n0, .int .i64 n1, .int .i64 n2, .slice B ys.length cap2] 27 (0, 0)) ∧ At wr (w.heap.size + 1 + 1) (.cells #[.int .i64 0, .int .i64 0, .int .i64 0, .int .i64 0, .slice none 0 0] 27 (0, 0)) ∧ At wr b3 (.cells #[.int .i64 p, .int .i64 n0, .int .i64 n1, .int .i64 n2, .slice (some ⟨g, 0, none⟩) N N] 27 (0, 0)) ∧ At wr g (.cells (iar (seqP F N a)) 2 (0, 0))) (fun i _ => N - (intOf i).toNat)
  case atStart => exact ⟨0, by omega, rfl, hB, h0, h1, h2, h3, hL⟩
  case round =>
    clear hB h0 h1 h2 h3 hL
    obtain ⟨a, ha, rfl, hB, h0, h1, h2, h3, hL⟩ := hrel
    obtain ⟨wc, rfl⟩ : ∃ x : World, x = wr := ⟨_, rfl⟩
    have x4 : wc.cell? ⟨w.heap.size, 4, none⟩ = some (.slice A xs.length cap) := h0.at_ 4
    by_cases hlt : a < N
    · have hax : a < xs.length := by have := HLx.out; omega
      have hay : a < ys.length := by have := HLy.out; omega
      have haN : a < N := hlt
      have hlt' : (a : Int) < (xs.length : Int) := by omega
      have e0 : IntKind.i64.wrap ((a : Int) + 1) = (a : Int) + 1 := IntWalk.i64_in _ (by omega)
      obtain ⟨bx, ox, rfl, _⟩ := HRx.out.at_ hax
      obtain ⟨by_, oy, rfl, _⟩ := HRy.out.at_ hay
      have HXc := Lib.hid (fun w' (hb : Below w.heap.size w w') => RdI.cell_at (HRx.out.keep hb) hax)
      have HYc := Lib.hid (fun w' (hb : Below w.heap.size w w') => RdI.cell_at (HRy.out.keep hb) hay)
      have bX := HBX.out a
      have bY := HBY.out a
      have HFa := Lib.hid (HF.out a)
      generalize nthI xs (a : Int) = X at *
      generalize nthI ys (a : Int) = Y at *
      have bm := mul_small hkk bY p2
      obtain ⟨V, hV⟩ : ∃ V, V = (X + (kk * Y)) % p := ⟨_, rfl⟩
      have HV : Hid ((X + (kk * Y)).tmod p = V) := Lib.hid (by rw [hV]; exact Int.tmod_eq_emod_of_nonneg (by omega))
      have HSet : Hid ((seqP F N a).set a V = seqP F N (a + 1)) := Lib.hid (by rw [← seqP_step, HFa.out, hV])
      have HLen := Lib.hid (seqP_len F N a)
      obtain ⟨L2, hL2⟩ : ∃ L2, L2 = seqP F N (a + 1) := ⟨_, rfl⟩
      rw [← hL2] at HSet
      have HL2 := Lib.hid hL2
      generalize seqP F N a = L at *
      clear hL2 hV
      go_wp2_with fail
      go_upto_region 9 with (fail)
      refine wp_region_y (zs := []) (S := fun w' => Below w.heap.size w w' ∧ At w' b3 (.cells #[.int .i64 p, .int .i64 n0, .int .i64 n1, .int .i64 n2, .slice (some ⟨g, 0, none⟩) N N] 27 (0, 0)) ∧ At w' w.heap.size (.cells #[.int .i64 p, .int .i64 n0, .int .i64 n1, .int .i64 n2, .slice (some ⟨bx, ox, none⟩) xs.length cap] 27 (0, 0)) ∧ At w' (w.heap.size + 1) (.cells #[.int .i64 p, .int .i64 n0, .int .i64 n1, .int .i64 n2, .slice (some ⟨by_, oy, none⟩) ys.length cap2] 27 (0, 0))) (S2 := fun w' => True) (by kernel_rfl) ?_
      change wpAnyY _ _ _ _ _ _ _ _ _ _ (World.drew _)
      generalize hwdz1 : World.drew _ = wdz1
      replace hB : Below w.heap.size w wdz1 := by rw [← hwdz1]; exact hB.drew
      replace h0 : At wdz1 w.heap.size (.cells #[.int .i64 p, .int .i64 n0, .int .i64 n1, .int .i64 n2, .slice (some ⟨bx, ox, none⟩) xs.length cap] 27 (0, 0)) := by rw [← hwdz1]; exact h0
      replace h1 : At wdz1 (w.heap.size + 1) (.cells #[.int .i64 p, .int .i64 n0, .int .i64 n1, .int .i64 n2, .slice (some ⟨by_, oy, none⟩) ys.length cap2] 27 (0, 0)) := by rw [← hwdz1]; exact h1
      replace h2 : At wdz1 (w.heap.size + 1 + 1) (.cells #[.int .i64 0, .int .i64 0, .int .i64 0, .int .i64 0, .slice none 0 0] 27 (0, 0)) := by rw [← hwdz1]; exact h2
      replace h3 : At wdz1 b3 (.cells #[.int .i64 p, .int .i64 n0, .int .i64 n1, .int .i64 n2, .slice (some ⟨g, 0, none⟩) N N] 27 (0, 0)) := by rw [← hwdz1]; exact h3
      replace hL : At wdz1 g (.cells (iar L) 2 (0, 0)) := by rw [← hwdz1]; exact hL
      clear hwdz1
      refine y_yield 0 (some 72) (.pointer (some ⟨b3, 4, none⟩)) rfl (by kernel_rfl) (by kernel_rfl) (by kernel_rfl) (fun _ _ _ h => h) rfl rfl ⟨hB, h3, h0, h1⟩ (fun w' h' => exec_fieldAddr 27 _ 4 rfl _ (by kernel_rfl)) ?_
      go_frame
      refine y_yield 1 (some 73) (.slice (some ⟨g, 0, none⟩) N N) rfl (by kernel_rfl) (by kernel_rfl) (by kernel_rfl) (fun _ _ _ h => h) rfl rfl ⟨hB, h3, h0, h1⟩ (fun w' h' => exec_load_one 22 _ rfl b3 4 rfl (.slice (some ⟨g, 0, none⟩) N N) _ Try.underlying22 rfl (h'.2.1.at_ 4)) ?_
      go_frame
      refine y_yield 2 (some 74) (.int .i64 a) rfl (by kernel_rfl) (by kernel_rfl) (by kernel_rfl) (fun _ _ _ h => h) rfl rfl ⟨hB, h3, h0, h1⟩ (fun w' h' => exec_move _ rfl (.int .i64 a) rfl) ?_
      go_frame
      refine y_yield 3 (some 75) (.pointer (some ⟨w.heap.size, 4, none⟩)) rfl (by kernel_rfl) (by kernel_rfl) (by kernel_rfl) (fun _ _ _ h => h) rfl rfl ⟨hB, h3, h0, h1⟩ (fun w' h' => exec_fieldAddr 27 _ 4 rfl _ (by kernel_rfl)) ?_
      go_frame
      refine y_yield 4 (some 76) (.slice (some ⟨bx, ox, none⟩) xs.length cap) rfl (by kernel_rfl) (by kernel_rfl) (by kernel_rfl) (fun _ _ _ h => h) rfl rfl ⟨hB, h3, h0, h1⟩ (fun w' h' => exec_load_one 22 _ rfl w.heap.size 4 rfl (.slice (some ⟨bx, ox, none⟩) xs.length cap) _ Try.underlying22 rfl (h'.2.2.1.at_ 4)) ?_
      go_frame
      refine y_yield 5 (some 77) (.int .i64 a) rfl (by kernel_rfl) (by kernel_rfl) (by kernel_rfl) (fun _ _ _ h => h) rfl rfl ⟨hB, h3, h0, h1⟩ (fun w' h' => exec_move _ rfl (.int .i64 a) rfl) ?_
      go_frame
      refine y_yield 6 (some 78) (.pointer (some ⟨bx, ox + a * 1, none⟩)) rfl (by kernel_rfl) (by kernel_rfl) (by kernel_rfl) (fun _ _ _ h => h) rfl rfl ⟨hB, h3, h0, h1⟩ (fun w' h' => exec_index_slice _ 2 _ _ rfl bx ox xs.length cap a 1 rfl rfl Try.underlying22 (by kernel_rfl) hax) ?_
      go_frame
      refine y_yield 7 (some 79) (.int .i64 X) rfl (by kernel_rfl) (by kernel_rfl) (by kernel_rfl) (fun _ _ _ h => h) rfl rfl ⟨hB, h3, h0, h1⟩ (fun w' h' => exec_load_one 2 _ rfl bx (ox + a * 1) rfl (.int .i64 X) _ Try.underlying2 rfl (HXc.out _ h'.1)) ?_
      go_frame
      refine y_yield 8 (some 80) (.int .i64 kk) rfl (by kernel_rfl) (by kernel_rfl) (by kernel_rfl) (fun _ _ _ h => h) rfl rfl ⟨hB, h3, h0, h1⟩ (fun w' h' => exec_move _ rfl (.int .i64 kk) rfl) ?_
      go_frame
      refine y_yield 9 (some 81) (.pointer (some ⟨w.heap.size + 1, 4, none⟩)) rfl (by kernel_rfl) (by kernel_rfl) (by kernel_rfl) (fun _ _ _ h => h) rfl rfl ⟨hB, h3, h0, h1⟩ (fun w' h' => exec_fieldAddr 27 _ 4 rfl _ (by kernel_rfl)) ?_
      go_frame
      refine y_yield 10 (some 82) (.slice (some ⟨by_, oy, none⟩) ys.length cap2) rfl (by kernel_rfl) (by kernel_rfl) (by kernel_rfl) (fun _ _ _ h => h) rfl rfl ⟨hB, h3, h0, h1⟩ (fun w' h' => exec_load_one 22 _ rfl (w.heap.size + 1) 4 rfl (.slice (some ⟨by_, oy, none⟩) ys.length cap2) _ Try.underlying22 rfl (h'.2.2.2.at_ 4)) ?_
      go_frame
      refine y_yield 11 (some 83) (.int .i64 a) rfl (by kernel_rfl) (by kernel_rfl) (by kernel_rfl) (fun _ _ _ h => h) rfl rfl ⟨hB, h3, h0, h1⟩ (fun w' h' => exec_move _ rfl (.int .i64 a) rfl) ?_
      go_frame
      refine y_yield 12 (some 84) (.pointer (some ⟨by_, oy + a * 1, none⟩)) rfl (by kernel_rfl) (by kernel_rfl) (by kernel_rfl) (fun _ _ _ h => h) rfl rfl ⟨hB, h3, h0, h1⟩ (fun w' h' => exec_index_slice _ 2 _ _ rfl by_ oy ys.length cap2 a 1 rfl rfl Try.underlying22 (by kernel_rfl) hay) ?_
      go_frame
      refine y_yield 13 (some 85) (.int .i64 Y) rfl (by kernel_rfl) (by kernel_rfl) (by kernel_rfl) (fun _ _ _ h => h) rfl rfl ⟨hB, h3, h0, h1⟩ (fun w' h' => exec_load_one 2 _ rfl by_ (oy + a * 1) rfl (.int .i64 Y) _ Try.underlying2 rfl (HYc.out _ h'.1)) ?_
      go_frame
      refine y_yield 14 (some 86) (.int .i64 (kk * Y)) rfl (by kernel_rfl) (by kernel_rfl) (by kernel_rfl) (fun _ _ _ h => h) rfl rfl ⟨hB, h3, h0, h1⟩ (fun w' h' => exec_mul _ _ _ _ rfl kk Y (kk * Y) rfl rfl (IntWalk.i64_in _ (by omega))) ?_
      go_frame
      refine y_yield 15 (some 87) (.int .i64 (X + (kk * Y))) rfl (by kernel_rfl) (by kernel_rfl) (by kernel_rfl) (fun _ _ _ h => h) rfl rfl ⟨hB, h3, h0, h1⟩ (fun w' h' => exec_add _ _ _ _ rfl X ((kk * Y)) (X + (kk * Y)) rfl rfl (IntWalk.i64_in _ (by omega))) ?_
      go_frame
      refine y_yield 16 (some 88) (.pointer (some ⟨w.heap.size, 0, none⟩)) rfl (by kernel_rfl) (by kernel_rfl) (by kernel_rfl) (fun _ _ _ h => h) rfl rfl ⟨hB, h3, h0, h1⟩ (fun w' h' => exec_fieldAddr 27 _ 0 rfl _ (by kernel_rfl)) ?_
      go_frame
      refine y_yield 17 (some 89) (.int .i64 p) rfl (by kernel_rfl) (by kernel_rfl) (by kernel_rfl) (fun _ _ _ h => h) rfl rfl ⟨hB, h3, h0, h1⟩ (fun w' h' => exec_load_one 2 _ rfl w.heap.size 0 rfl (.int .i64 p) _ Try.underlying2 rfl (h'.2.2.1.at_ 0)) ?_
      go_frame
      refine y_yield 18 (some 90) (.int .i64 V) rfl (by kernel_rfl) (by kernel_rfl) (by kernel_rfl) (fun _ _ _ h => h) rfl rfl ⟨hB, h3, h0, h1⟩ (fun w' h' => exec_rem _ _ _ _ rfl (X + (kk * Y)) p V rfl rfl (by omega) HV.out) ?_
      go_frame
      refine y_yield 19 (some 91) (.pointer (some ⟨g, a * 1, none⟩)) rfl (by kernel_rfl) (by kernel_rfl) (by kernel_rfl) (fun _ _ _ h => h) rfl rfl ⟨hB, h3, h0, h1⟩ (fun w' h' => exec_ix0 _ 2 _ _ rfl g N N a 1 rfl rfl Try.underlying22 (by kernel_rfl) haN) ?_
      go_frame
      refine y_oper 20 (by kernel_rfl) rfl rfl (fun K' hK' => ?_)
      refine wp_store_one 2 _ _ rfl rfl g (a * 1) rfl (.int .i64 V) rfl rfl rfl _ _ hL (by kernel_rfl) (by rw [iar_size, HLen.out]; omega) (fun Wz2 pz3 => ?_)
      replace hB := pz3.below hB (by omega)
      replace h0 := pz3.other h0 (by omega)
      replace h1 := pz3.other h1 (by omega)
      replace h2 := pz3.other h2 (by omega)
      replace h3 := pz3.other h3 (by omega)
      replace hL : At Wz2 g (.cells (iar L2) 2 (0, 0)) := by have h9 := pz3.at_; rwa [Nat.mul_one, iar_set, HSet.out] at h9
      refine hK' _ _ ⟨hB, h3, h0, h1⟩ (fun _ => trivial) ?_
      clear hK' K' pz3
      refine y_done (by kernel_rfl) ?_ _
      go_wp2_with fail
      go_roundw
      case rel => exact ⟨a + 1, by omega, by go_num, hB, h0, h1, h2, h3, by rw [← HL2.out]; exact hL⟩
      case measure => simp [intOf]; omega
    · obtain rfl : a = N := by omega
      have hnl : ¬ (a : Int) < (xs.length : Int) := by have := HLx.out; omega
      go_wp2_with (first | (refine wpList_load_all rfl 27 _ rfl b3 rfl _ _ _ h3 Try.underlying27 rfl 5 (by kernel_rfl) rfl ?_) | (refine wpList_store_all rfl 27 _ _ rfl rfl (w.heap.size + 1 + 1) rfl _ rfl _ _ h2 5 (by kernel_rfl) rfl rfl (by simp [Value.oneCell']) ?_; intro w7 p7))
      refine bodyPost_ret (results_at2 rfl _ _ (w.heap.size + 1 + 1) _ _ _ rfl _ rfl p7.at_ Try.underlying27 rfl 5 (by kernel_rfl) rfl) rfl ?_
      have hlen : (seqP F a a).length = a := seqP_len F a a
      have ho := OwnI.of_at (p7.other hL (by omega)) (show w.heap.size ≤ g by omega) (by omega)
      rw [hlen] at ho
      exact ⟨_, by rw [Hz.out, Hz.out, Hz.out, Hz.out, Hcode.out]; rfl, by rw [Hr.out]; exact ho, p7.below hB (by omega)⟩
theorem specAddTensors_c (p a b c : Int) (A : Option Addr) (cap : Nat) (xs : List Int) (q d e f : Int) (B : Option Addr) (cap2 : Nat) (ys : List Int) (kk : Int) (w : World) (hr : RdI w A xs) (hn : xs.length ≤ 1048576) (hs : RdI w B ys) (hm : ys.length ≤ 1048576) :
    Calls Try.prog 18 #[.agg #[.int .i64 p, .int .i64 a, .int .i64 b, .int .i64 c, .slice A xs.length cap], .agg #[.int .i64 q, .int .i64 d, .int .i64 e, .int .i64 f, .slice B ys.length cap2], .int .i64 kk] w (ResT w (adZ p a b c xs q d e f ys kk p) (adZ p a b c xs q d e f ys kk a) (adZ p a b c xs q d e f ys kk b) (adZ p a b c xs q d e f ys kk c) (adR p a b c xs q d e f ys kk) (adCode p a b c xs q d e f ys kk)) := by
  cases hx : tenB p a b c xs with
  | false => exact specAdd_a p a b c A cap xs q d e f B cap2 ys kk w hr hn hs hm hx
  | true =>
  cases hy : tenB q d e f ys with
  | false => exact specAdd_b p a b c A cap xs q d e f B cap2 ys kk w hr hn hs hm hx hy
  | true =>
  by_cases hpq : p = q
  · subst hpq
    by_cases e1 : a = d
    · by_cases e2 : b = e
      · by_cases e3 : c = f
        · cases hk : inB kk p with
          | false => exact specAdd_g p a b c A cap xs d e f B cap2 ys kk w hr hn hs hm hx hy e1 e2 e3 hk
          | true =>
            subst e1 e2 e3
            obtain ⟨_, s0, s1, s2, _, _⟩ := tenB_parts hx
            obtain ⟨n0, rfl⟩ := Int.eq_ofNat_of_zero_le (show 0 ≤ a by have := sideB_in s0; omega)
            obtain ⟨n1, rfl⟩ := Int.eq_ofNat_of_zero_le (show 0 ≤ b by have := sideB_in s1; omega)
            obtain ⟨n2, rfl⟩ := Int.eq_ofNat_of_zero_le (show 0 ≤ c by have := sideB_in s2; omega)
            exact specAdd_y p n0 n1 n2 A cap xs B cap2 ys kk w hr hn hs hm hx hy hk
        · exact specAdd_f p a b c A cap xs d e f B cap2 ys kk w hr hn hs hm hx hy e1 e2 e3
      · exact specAdd_e p a b c A cap xs d e f B cap2 ys kk w hr hn hs hm hx hy e1 e2
    · exact specAdd_d p a b c A cap xs d e f B cap2 ys kk w hr hn hs hm hx hy e1
  · exact specAdd_c p a b c A cap xs q d e f B cap2 ys kk w hr hn hs hm hx hy hpq
end Go.Proofs.Ytdgaphcpoincpaa
