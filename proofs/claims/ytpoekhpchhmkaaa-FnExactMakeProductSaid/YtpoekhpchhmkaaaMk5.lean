/-
  impl.MakeProduct: what it answers where the arguments are fit.
-/
import Derived.Test.YtpoekhpchhmkaaaMk4
namespace Go.Proofs.Ytpoekhpchhmkaaa
open Go.RowKit
set_option maxRecDepth 100000
theorem call_sumOf (args : Array Value) (w : World) : (callFunc 48 args).run Try.prog w = .ok (.enter 48 args) w := by kernel_rfl
set_option maxHeartbeats 3200000 in
theorem implMakeProduct_yes (p n m k : Int) (A0 : Option Addr) (c0 : Nat) (qs : List (List Nat)) (A B : Option Addr) (c1 c2 N M : Nat) (X Y : Nat → List Int) (w : World) (hq : Rd w A0 qs) (hlen : qs.length ≤ 1048576) (hX : RdM w A N X) (hY : RdM w B M Y) (hN : N ≤ 1048576) (hM : M ≤ 1048576) (hXl : ∀ i, i < N → (X i).length ≤ 1048576) (hYl : ∀ i, i < M → (Y i).length ≤ 1048576)
    (hyes : schemeB p n m k qs = true) (h1 : matB p n m N X = true) (h2 : matB p m k M Y = true) :
    Calls Try.prog 20 #[.agg #[.int .i64 p, .int .i64 n, .int .i64 m, .int .i64 k, .slice A0 qs.length c0], .slice A N c1, .slice B M c2] w (ResM w N (matC p (mkS qs X Y N M) (mkC qs) k.toNat qs.length 0) 0) := by
  have hs := hyes
  simp only [schemeB, Bool.and_eq_true, decide_eq_true_eq] at hs
  obtain ⟨⟨hs1, hl30⟩, _⟩ := hs
  obtain ⟨hp, sn, sm, sk⟩ := sizesB_parts hs1
  simp only [sizeB, Bool.and_eq_true, decide_eq_true_eq] at sn sm sk
  have hpp : 0 < p ∧ p ≤ 5 := by
    simp only [primeB, Bool.or_eq_true, beq_iff_eq] at hp
    omega
  obtain ⟨rfl, hXr⟩ := matB_parts h1
  obtain ⟨rfl, hYr⟩ := matB_parts h2
  obtain ⟨K, rfl⟩ : ∃ K : Nat, k = (K : Int) := ⟨k.toNat, by omega⟩
  rw [Int.toNat_natCast]
  have tX : tot X N ≤ N * 3 := tot_le (fun i hi => by have := (hXr i hi).1; omega)
  have tY : tot Y M ≤ M * 3 := tot_le (fun i hi => by have := (hYr i hi).1; omega)
  have HMk := Lib.hid (fun w => zeroMatrix_c N K w (by omega) (by omega))
  have HPl := Lib.hid (fun w => places_c (N : Int) (K : Int) w (by simp only [sizeB, Bool.and_eq_true, decide_eq_true_eq]; omega) (by simp only [sizeB, Bool.and_eq_true, decide_eq_true_eq]; omega))
  have HS0 := fun w hq => implIsScheme_c p N M K A0 c0 qs w hq hlen
  rw [hyes] at HS0
  have HS := Lib.hid HS0
  have HX0 := fun w hX => isMatrix_c p N M A c1 N X w hX hN hXl
  have HY0 := fun w hY => isMatrix_c p M K B c2 M Y w hY hM hYl
  rw [h1] at HX0
  rw [h2] at HY0
  have HX := Lib.hid HX0
  have HY := Lib.hid HY0
  have hXr5 : Hid (∀ i, i < N → ∀ x ∈ X i, 0 ≤ x ∧ x ≤ 5) := Lib.hid (fun i hi x hx => by have := (hXr i hi).2 x hx; omega)
  have hYr5 : Hid (∀ i, i < M → ∀ x ∈ Y i, 0 ≤ x ∧ x ≤ 5) := Lib.hid (fun i hi x hx => by have := (hYr i hi).2 x hx; omega)
  have hXp : Hid (∀ i, i < N → 0 < (X i).length) := Lib.hid (fun i hi => by have := (hXr i hi).1; omega)
  have hYp : Hid (∀ i, i < M → 0 < (Y i).length) := Lib.hid (fun i hi => by have := (hYr i hi).1; omega)
  have hp0 : p ≠ 0 := by omega
  have hK0 : (K : Int) ≠ 0 := by omega
  have hnk : N * K ≤ 9 := Nat.mul_le_mul (show N ≤ 3 by omega) (show K ≤ 3 by omega)
  clear HX0 HY0 HS0 hXr hYr h1 h2 hyes hs1
  go_enter Try.func20, Try.ntmps20
  go_wp2_with fail
  refine (HS.out _ (hq.keep (below1 _ _))).mono ?_
  rintro e w1 ⟨rfl, b1⟩
  have hB := below_after (below1 _ _) b1
  have ha := At.after (al1_0 _ _) b1
  clear b1
  go_wp2_with (refine wpList_load_all rfl 31 _ rfl w.heap.size rfl _ _ _ (by exact ha) Try.underlying31 rfl 5 (by kernel_rfl) rfl ?_)
  refine (shapesOf_c p N M K _ _).mono ?_
  rintro e w2 ⟨rfl, b2⟩
  replace hB := below_after hB b2
  replace ha := ha.after b2
  clear b2
  have hB3 := below1 w2 (.cells #[.int .i64 N, .int .i64 M, .int .i64 M, .int .i64 K, .int .i64 N, .int .i64 K] 72 (0, 0))
  have ha3 := ha.after hB3
  have hs3 := al1_0 w2 (.cells #[.int .i64 N, .int .i64 M, .int .i64 M, .int .i64 K, .int .i64 N, .int .i64 K] 72 (0, 0))
  have k0 : (w2.alloc (.cells #[.int .i64 N, .int .i64 M, .int .i64 M, .int .i64 K, .int .i64 N, .int .i64 K] 72 (0, 0))).cell? ⟨w.heap.size, 0, none⟩ = some (.int .i64 p) := ha3.at_ 0
  go_wp2_with (refine wpList_load_sub rfl 71 _ rfl w2.heap.size 0 rfl _ _ _ 2 #[.int .i64 N, .int .i64 M] (by exact hs3) Try.underlying71 rfl (by kernel_rfl) (by simp) rfl ?_)
  have hsw := hB.size
  replace hB := below_after hB hB3
  refine (HX.out _ (hX.keep hB)).mono ?_
  rintro e w4 ⟨rfl, b4⟩
  replace hB := below_after hB b4
  have hs4 := At.after hs3 b4
  have ha4 := ha3.after b4
  have k4 : w4.cell? ⟨w.heap.size, 0, none⟩ = some (.int .i64 p) := ha4.at_ 0
  go_wp2_with (refine wpList_want_exec rfl (exec_load_sub 71 _ rfl w2.heap.size 2 rfl _ _ _ 2 #[.int .i64 M, .int .i64 K] (by exact hs4) Try.underlying71 rfl (by kernel_rfl) (by simp) rfl) ?_)
  refine (HY.out _ (hY.keep hB)).mono ?_
  rintro e wb5 ⟨rfl, b5⟩
  replace hB := below_after hB b5
  have hs5 := hs4.after b5
  have ha5 := ha4.after b5
  go_wp2_with (refine wpList_load_sub rfl 71 _ rfl w2.heap.size 4 rfl _ _ _ 2 #[.int .i64 N, .int .i64 K] (by exact hs5) Try.underlying71 rfl (by kernel_rfl) (by simp) rfl ?_)
  refine (HMk.out _).mono ?_
  rintro e wz ⟨v, rfl, oM, bz⟩
  rcases oM with ⟨_, h0⟩ | ⟨g, cM, cs, gs, rfl, hMat⟩
  · omega
  have hlc := hs5.lt
  have hlw := ha5.lt
  have hPM : PM w #[.int .i64 p, .int .i64 N, .int .i64 M, .int .i64 K, .slice A0 qs.length c0] 31 w.heap.size wb5.heap.size wz.heap.size g cs gs N (matC p (mkS qs X Y N M) (mkC qs) K 0 0) wz := ⟨below_after hB bz, ha5.after bz, hMat.congr fun i _ => matC_zero _ _ _ _ _, fun i hi => by have := (hMat.row i hi).2.1; omega⟩
  have hgl : ∀ i, i < N → w2.heap.size < gs i := fun i hi => by have := (hMat.row i hi).2.1; omega
  have hsh := hs5.after bz
  have hzz : wz.heap.size ≤ wz.heap.size := Nat.le_refl _
  have kz : wz.cell? ⟨w.heap.size, 4, none⟩ = some (.slice A0 qs.length c0) := hPM.box.at_ 4
  generalize hhi : wz.heap.size = hi at hPM hzz
  clear hMat bz hB hs3 hs4 hs5 ha ha3 ha4 ha5 b4 b5 k0 k4 hB3
  go_wp2_with fail
  go_loopw [42] (fun iv wr => ∃ t : Nat, t ≤ qs.length ∧ iv = .int .i64 t ∧ hi ≤ wr.heap.size ∧ PM w #[.int .i64 p, .int .i64 N, .int .i64 M, .int .i64 K, .slice A0 qs.length c0] 31 w.heap.size wb5.heap.size hi g cs gs N (matC p (mkS qs X Y N M) (mkC qs) K t 0) wr ∧ At wr w2.heap.size (.cells #[.int .i64 N, .int .i64 M, .int .i64 M, .int .i64 K, .int .i64 N, .int .i64 K] 72 (0, 0))) (fun iv _ => qs.length - (intOf iv).toNat)
  case atStart => exact ⟨0, by omega, rfl, by omega, hPM, hsh⟩
  case round =>
    clear hPM hsh kz hzz
    obtain ⟨t, ht, rfl, hhi2, hP, hsh⟩ := hrel
    obtain ⟨wa, rfl⟩ : ∃ wa : World, wa = wr := ⟨_, rfl⟩
    by_cases hlt : t < qs.length
    · have e0 : IntKind.i64.wrap ((t : Int) + 1) = (t : Int) + 1 := IntWalk.i64_in _ (by omega)
      have hk' : (t : Int) < (qs.length : Int) := by omega
      obtain ⟨b0, off0, hA0e, hcq⟩ := (hq.keep hP.below).at_ hlt
      have hqb := hq.good qs[t] (List.getElem_mem hlt)
      have hqa : qAt qs t = qs[t] := by simp [qAt, hlt]
      have hg2 : ∀ i, i < N → gs i < wa.heap.size := fun i hi => (hP.mat.row i hi).1.lt
      have hwl := hP.box.lt
      have hsl := hsh.lt
      subst hA0e
      have Hc := Lib.hid hcq
      have HA := Lib.hid (fun w h => sumOfForm_c (segm qs[t] 0 9) A c1 N X w (segm_bytes hqb (by omega)) h hXp.out (by omega) (by omega) hXr5.out)
      have HBB := Lib.hid (fun w h => sumOfForm_c (segm qs[t] 9 9) B c2 M Y w (segm_bytes hqb (by omega)) h hYp.out (by omega) (by omega) hYr5.out)
      have ba := sumF_in (segm_bytes (a := 0) (n := 9) hqb (by omega)) (xs := catI X N) (fun x h => by obtain ⟨i, hi, hm⟩ := catI_mem h; exact hXr5.out i hi x hm) (tot X N)
      have bb := sumF_in (segm_bytes (a := 9) (n := 9) hqb (by omega)) (xs := catI Y M) (fun x h => by obtain ⟨i, hi, hm⟩ := catI_mem h; exact hYr5.out i hi x hm) (tot Y M)
      have HSt : Hid (mkS qs X Y N M t = sumF (segm qs[t] 0 9) (catI X N) (tot X N) * sumF (segm qs[t] 9 9) (catI Y M) (tot Y M)) := Lib.hid (by rw [mkS, hqa])
      have HC : Hid (∀ c, mkC qs t c = ((qs[t][18 + c]?.getD 0 : Nat) : Int)) := Lib.hid (fun c => by rw [mkC, hqa])
      clear hcq hqa
      generalize sumF (segm qs[t] 0 9) (catI X N) (tot X N) = sa at *
      generalize sumF (segm qs[t] 9 9) (catI Y M) (tot Y M) = sb at *
      generalize qs[t] = q at *
      have hq27 := hqb.len
      have s1 : 0 ≤ sa * sb := Int.mul_nonneg ba.1 bb.1
      have s2 : sa * sb ≤ 11520 * 11520 := Int.mul_le_mul (by omega) (by omega) bb.1 (by omega)
      have r3 : IntKind.i64.wrap (sa * sb) = sa * sb := IntWalk.i64_in _ (by omega)
      go_upto_region 10 with (first | (refine wpList_load_cells rfl 37 _ rfl b0 (off0 + t * 27) rfl q _ 27 Hc.out Try.underlying37 rfl (by kernel_rfl) hq27 ?_) | (refine wpList_abs1 ?_; intro W2 hsz2 hB2 q2; replace q2 : At W2 wa.heap.size (.cells (u8s (List.replicate 27 0)) 37 (0, 0)) := q2; replace hP := hP.after hB2; replace hsh := hsh.after hB2) | (refine wpList_store_u8s rfl 37 _ _ rfl rfl wa.heap.size 0 rfl q rfl _ _ q2 27 (by kernel_rfl) hq27 (by simp) ?_; intro W3 q3))
      have hqx := q3.at_
      rw [over_all (by simp [hq27])] at hqx
      replace hsh := q3.other hsh (by omega)
      replace hP : PM w _ _ w.heap.size wb5.heap.size hi g cs gs N _ W3 := ⟨q3.below hP.below (by omega), q3.other hP.box (by omega), hP.mat.keepR (fun x o h1 h2 h3 => q3.other h3 (fun e => by omega)), hP.ne⟩
      have hsz3 : hi ≤ W3.heap.size := by have := hqx.lt; omega
      clear q3 q2 hB2 hsz2
      go_cut [12] from 46 to 54 (fun s12 wx => s12 = .int .i64 (sa * sb) ∧ hi ≤ wx.heap.size ∧ PM w #[.int .i64 p, .int .i64 N, .int .i64 M, .int .i64 K, .slice (some ⟨b0, off0, none⟩) qs.length c0] 31 w.heap.size wb5.heap.size hi g cs gs N (matC p (mkS qs X Y N M) (mkC qs) K t 0) wx ∧ At wx w2.heap.size (.cells #[.int .i64 N, .int .i64 M, .int .i64 M, .int .i64 K, .int .i64 N, .int .i64 K] 72 (0, 0)) ∧ At wx wa.heap.size (.cells (u8s q) 37 (0, 0)))
      case first =>
        go_wp2_with fail
        refine wp_region_held (S := fun w' => At w' wa.heap.size (.cells (u8s q) 37 (0, 0))) (by kernel_rfl) ?_
        change wpAnyH _ _ _ _ _ _ _ _ (World.drew _)
        replace hP : PM w _ _ _ _ hi g cs gs N _ W3.drew := hP.after (Below.refl _ _).drew
        replace hqx : At W3.drew wa.heap.size _ := hqx
        replace hsh : At W3.drew w2.heap.size _ := hsh
        replace hsz3 : hi ≤ W3.drew.heap.size := hsz3
        generalize W3.drew = wd at *
        refine held_yield 0 (some 46) (.pointer (some ⟨wa.heap.size, 0, none⟩)) rfl (by kernel_rfl) (by kernel_rfl) (by kernel_rfl) (fun _ _ _ h => h) rfl rfl hqx (fun w' h' => exec_fieldAddr 37 _ 0 rfl (.pointer (some ⟨wa.heap.size, 0, none⟩)) (by kernel_rfl)) ?_
        go_frame
        refine held_yield 1 (some 47) (.agg (u8s (segm q 0 9))) rfl (by kernel_rfl) (by kernel_rfl) (by kernel_rfl) (fun _ _ _ h => h) rfl rfl hqx (fun w' h' => exec_load_u8s 35 _ rfl wa.heap.size 0 rfl _ q _ 9 h' Try.underlying35 rfl (by kernel_rfl) (by omega)) ?_
        go_frame
        refine held_yield 2 (some 48) (.slice A N c1) rfl (by kernel_rfl) (by kernel_rfl) (by kernel_rfl) (fun _ _ _ h => h) rfl rfl hqx (fun w' h' => exec_move _ rfl (.slice A N c1) rfl) ?_
        go_frame
        refine held_yield 4 (some 50) (.pointer (some ⟨wa.heap.size, 9, none⟩)) rfl (by kernel_rfl) (by kernel_rfl) (by kernel_rfl) (fun _ _ _ h => h) rfl rfl hqx (fun w' h' => exec_fieldAddr 37 _ 1 rfl (.pointer (some ⟨wa.heap.size, 9, none⟩)) (by kernel_rfl)) ?_
        go_frame
        refine held_yield 5 (some 51) (.agg (u8s (segm q 9 9))) rfl (by kernel_rfl) (by kernel_rfl) (by kernel_rfl) (fun _ _ _ h => h) rfl rfl hqx (fun w' h' => exec_load_u8s 35 _ rfl wa.heap.size 9 rfl _ q _ 9 h' Try.underlying35 rfl (by kernel_rfl) (by omega)) ?_
        go_frame
        refine held_yield 6 (some 52) (.slice B M c2) rfl (by kernel_rfl) (by kernel_rfl) (by kernel_rfl) (fun _ _ _ h => h) rfl rfl hqx (fun w' h' => exec_move _ rfl (.slice B M c2) rfl) ?_
        go_frame
        refine held_oper 3 (by kernel_rfl) rfl rfl (fun K' hK' => ?_)
        refine wp_call2 (some 49) rfl 48 _ _ _ rfl call_sumOf _ _ rfl rfl _ (HA.out _ (hX.keep hP.below)) (fun e w6 h => ?_)
        obtain ⟨rfl, b6⟩ := h
        replace hsz3 := Nat.le_trans hsz3 b6.size
        replace hP := hP.after b6
        replace hsh := At.after hsh b6
        replace hqx := At.after hqx b6
        refine ⟨_, rfl, hK' _ _ hqx ?_⟩
        clear hK' K' b6
        go_frame
        refine held_oper 7 (by kernel_rfl) rfl rfl (fun K' hK' => ?_)
        refine wp_call2 (some 53) rfl 48 _ _ _ rfl call_sumOf _ _ rfl rfl _ (HBB.out _ (hY.keep hP.below)) (fun e w6 h => ?_)
        obtain ⟨rfl, b6⟩ := h
        replace hsz3 := Nat.le_trans hsz3 b6.size
        replace hP := hP.after b6
        replace hsh := At.after hsh b6
        replace hqx := At.after hqx b6
        refine ⟨_, rfl, hK' _ _ hqx ?_⟩
        clear hK' K' b6
        go_frame
        refine held_yield 8 (some 54) (.int .i64 (sa * sb)) rfl (by kernel_rfl) (by kernel_rfl) (by kernel_rfl) (fun _ _ _ h => h) rfl rfl hqx (fun w' h' => exec_mul _ _ _ _ rfl sa sb (sa * sb) rfl rfl r3) ?_
        go_frame
        refine held_yield 9 (some 12) (.int .i64 (sa * sb)) rfl (by kernel_rfl) (by kernel_rfl) (by kernel_rfl) (fun _ _ _ h => h) rfl rfl hqx (fun w' h' => exec_assign _ rfl (.int .i64 (sa * sb)) rfl) ?_
        go_frame
        refine wpAnyH_done (by kernel_rfl) ?_ _
        go_wp2_with fail
        go_meet
        exact ⟨rfl, hsz3, hP, hsh, hqx⟩
      case rest =>
        clear hP hqx hsz3 hsh
        obtain ⟨rfl, hhi2, hP, hsh, hqx⟩ := hcut
        go_wp2_with (refine wpList_load_sub rfl 71 _ rfl w2.heap.size 4 rfl _ _ _ 2 #[.int .i64 N, .int .i64 K] (by exact hsh) Try.underlying71 rfl (by kernel_rfl) (by simp) rfl ?_)
        refine (HPl.out _).mono ?_
        rintro e w7 ⟨rfl, b7⟩
        replace hhi2 := Nat.le_trans hhi2 b7.size
        replace hP := hP.after b7
        replace hsh := hsh.after b7
        replace hqx := hqx.after b7
        clear b7 HA HBB ba bb
        rw [← Int.natCast_mul]
        go_wp2_with fail
        go_loopw [58] (fun iv wx => ∃ c : Nat, c ≤ N * K ∧ iv = .int .i64 c ∧ hi ≤ wx.heap.size ∧ PM w #[.int .i64 p, .int .i64 N, .int .i64 M, .int .i64 K, .slice (some ⟨b0, off0, none⟩) qs.length c0] 31 w.heap.size wb5.heap.size hi g cs gs N (matC p (mkS qs X Y N M) (mkC qs) K t c) wx ∧ At wx w2.heap.size (.cells #[.int .i64 N, .int .i64 M, .int .i64 M, .int .i64 K, .int .i64 N, .int .i64 K] 72 (0, 0)) ∧ At wx wa.heap.size (.cells (u8s q) 37 (0, 0))) (fun iv _ => N * K - (intOf iv).toNat)
        case atStart => exact ⟨0, by omega, rfl, hhi2, hP, hsh, hqx⟩
        case round =>
          clear hP hqx hhi2 hsh
          obtain ⟨c, hc, rfl, hhi2, hP, hsh, hqx⟩ := hrel
          by_cases hltc : c < N * K
          · have hKp : 0 < K := by omega
            have hlK0 : c % K < K := Nat.mod_lt _ hKp
            have hiN0 : c / K < N := Nat.div_lt_of_lt_mul (by rw [Nat.mul_comm]; exact hltc)
            have hcl0 : c / K * K + c % K = c := by rw [Nat.mul_comm]; exact Nat.div_add_mod c K
            have hq0 : (c : Int).tdiv (K : Int) = ((c / K : Nat) : Int) := (Int.ofNat_tdiv c K).symm
            have hrem0 : (c : Int).tmod (K : Int) = ((c % K : Nat) : Int) := (Int.ofNat_tmod c K).symm
            obtain ⟨i, hid⟩ : ∃ i, i = c / K := ⟨_, rfl⟩
            obtain ⟨l, hld⟩ : ∃ l, l = c % K := ⟨_, rfl⟩
            rw [← hid] at hiN0 hcl0 hq0
            rw [← hld] at hlK0 hcl0 hrem0
            clear hid hld
            have hiN := hiN0
            have hlK := hlK0
            have hrem := hrem0
            have hquo : IntKind.i64.wrap ((c : Int).tdiv (K : Int)) = (i : Int) := by rw [hq0]; exact IntWalk.i64_in _ (by omega)
            have f0 : IntKind.i64.wrap ((c : Int) + 1) = (c : Int) + 1 := IntWalk.i64_in _ (by omega)
            have hcI : (c : Int) < ((N * K : Nat) : Int) := by omega
            have h9 : c < 9 := by omega
            have k3 : wr.cell? ⟨w.heap.size, 3, none⟩ = some (.int .i64 K) := hP.box.at_ 3
            have k0 : wr.cell? ⟨w.heap.size, 0, none⟩ = some (.int .i64 p) := hP.box.at_ 0
            have hci := hP.mat.cell i hiN
            rw [matC_len] at hci
            have hc0 : wr.cell? ⟨g, i, none⟩ = some (.slice (some ⟨gs i, 0, none⟩) K K) := by rw [hP.mat.out.at_ i, hci]
            have hA := (hP.mat.row i hiN).1
            have hget := matC_get p (mkS qs X Y N M) (mkC qs) t i hlK
            rw [hcl0] at hget
            have hcs : (wr.drewN 1).cell? ⟨gs i, l, none⟩ = some (.int .i64 (mkE p (mkS qs X Y N M) (mkC qs) c t)) := by
              have h := (At.drewN hA 1).at_ l
              rw [h, hget]
            have bE := mkE_in (p := p) (mkS qs X Y N M) (mkC qs) c hpp.1 t
            have hcy : (wr.drewN 1).cell? ⟨wa.heap.size, 18 + c * 1, none⟩ = some (.int .u8 ((q[18 + c]?.getD 0 : Nat) : Int)) := by rw [Nat.mul_one]; exact (At.drewN hqx 1).cell (by omega)
            have by' := hqb.lt (18 + c)
            have hst : mkE p (mkS qs X Y N M) (mkC qs) c (t + 1) = (mkE p (mkS qs X Y N M) (mkC qs) c t + ((q[18 + c]?.getD 0 : Nat) : Int) * (sa * sb)) % p := by
              rw [← HSt.out, ← HC.out]
              rfl
            have hset0 := matC_set p (mkS qs X Y N M) (mkC qs) t i hlK
            have hne0 := matC_ne p (mkS qs X Y N M) (mkC qs) t i hlK
            rw [hcl0, hst] at hset0
            rw [hcl0] at hne0
            have Hset := Lib.hid hset0
            have Hne := Lib.hid hne0
            obtain ⟨w1, w2', w3⟩ := term_in (E := mkE p (mkS qs X Y N M) (mkC qs) c t) (s := sa * sb) hpp.1 hpp.2 bE ⟨s1, by omega⟩ by'
            have w2 := w2'
            clear hst hset0 hne0 hget hci
            generalize mkE p (mkS qs X Y N M) (mkC qs) c t = E at hcs w1 w2 w3 bE Hset
            generalize q[18 + c]?.getD 0 = y at *
            go_wp2_with fail
            refine wp_region_still_tail (P := Try.prog) 12 (by kernel_rfl) (by kernel_rfl) ?_
            simp only [List.take_succ_cons, List.take_zero, List.drop_succ_cons, List.drop_zero]
            refine wpStill_of_exec rfl (exec_move _ rfl (.slice (some ⟨g, 0, none⟩) N cM) rfl) ?_
            go_frame
            refine wpStill_of_exec rfl (exec_move _ rfl (.int .i64 c) rfl) ?_
            go_frame
            refine wpStill_of_exec rfl (exec_fieldAddr 31 _ 3 rfl (.pointer (some ⟨w.heap.size, 3, none⟩)) (by kernel_rfl)) ?_
            go_frame
            refine wpStill_of_exec rfl (exec_load_one 2 _ rfl w.heap.size 3 rfl (.int .i64 K) _ Try.underlying2 rfl k3) ?_
            go_frame
            refine wpStill_of_exec rfl (exec_quo _ _ _ _ rfl c K ((i : Nat) : Int) rfl rfl hK0 hquo) ?_
            go_frame
            refine wpStill_of_exec rfl (exec_index0 _ 66 _ _ rfl g N cM i rfl rfl Try.underlying44 (by kernel_rfl) hiN) ?_
            go_frame
            refine wpStill_of_exec rfl (exec_load_one 66 _ rfl g i rfl (.slice (some ⟨gs i, 0, none⟩) K K) _ Try.underlying66 rfl hc0) ?_
            go_frame
            refine wpStill_of_exec rfl (exec_move _ rfl (.int .i64 c) rfl) ?_
            go_frame
            refine wpStill_of_exec rfl (exec_fieldAddr 31 _ 3 rfl (.pointer (some ⟨w.heap.size, 3, none⟩)) (by kernel_rfl)) ?_
            go_frame
            refine wpStill_of_exec rfl (exec_load_one 2 _ rfl w.heap.size 3 rfl (.int .i64 K) _ Try.underlying2 rfl k3) ?_
            go_frame
            refine wpStill_of_exec rfl (exec_rem _ _ _ _ rfl c K ((l : Nat) : Int) rfl rfl hK0 hrem) ?_
            go_frame
            refine wpStill_of_exec rfl (exec_index0 _ 2 _ _ rfl (gs i) K K l rfl rfl Try.underlying66 (by kernel_rfl) hlK) ?_
            go_frame
            refine wpStill_nil ?_
            have k0' : (wr.drewN 1).cell? ⟨w.heap.size, 0, none⟩ = some (.int .i64 p) := k0
            go_wp2_with fail
            refine wp_region_still_tail (P := Try.prog) 16 (by kernel_rfl) (by kernel_rfl) ?_
            simp only [List.take_succ_cons, List.take_zero, List.drop_succ_cons, List.drop_zero]
            refine wpStill_of_exec rfl (exec_move _ rfl (.pointer (some ⟨gs i, l, none⟩)) rfl) ?_
            go_frame
            refine wpStill_of_exec rfl (exec_move _ rfl (.pointer (some ⟨gs i, l, none⟩)) rfl) ?_
            go_frame
            refine wpStill_of_exec rfl (exec_nilCheck _ rfl ⟨gs i, l, none⟩ rfl) ?_
            go_frame
            refine wpStill_of_exec rfl (exec_load_one 2 _ rfl (gs i) l rfl (.int .i64 E) _ Try.underlying2 rfl hcs) ?_
            go_frame
            refine wpStill_of_exec rfl (exec_move _ rfl (.int .i64 c) rfl) ?_
            go_frame
            refine wpStill_of_exec rfl (exec_fieldAddr 37 _ 2 rfl (.pointer (some ⟨wa.heap.size, 18, none⟩)) (by kernel_rfl)) ?_
            go_frame
            refine wpStill_of_exec rfl (exec_index_arr _ 5 _ _ rfl wa.heap.size 18 9 c 1 rfl rfl Try.underlying35 (by kernel_rfl) h9) ?_
            go_frame
            refine wpStill_of_exec rfl (exec_load_one 5 _ rfl wa.heap.size (18 + c * 1) rfl (.int .u8 (y : Int)) _ Try.underlying5 rfl hcy) ?_
            go_frame
            refine wpStill_of_exec rfl (exec_conv _ rfl y rfl by') ?_
            go_frame
            refine wpStill_of_exec rfl (exec_move _ rfl (.int .i64 (sa * sb)) rfl) ?_
            go_frame
            refine wpStill_of_exec rfl (exec_mul _ _ _ _ rfl y (sa * sb) ((y : Int) * (sa * sb)) rfl rfl w1) ?_
            go_frame
            refine wpStill_of_exec rfl (exec_add _ _ _ _ rfl E ((y : Int) * (sa * sb)) (E + (y : Int) * (sa * sb)) rfl rfl w2) ?_
            go_frame
            refine wpStill_of_exec rfl (exec_fieldAddr 31 _ 0 rfl (.pointer (some ⟨w.heap.size, 0, none⟩)) (by kernel_rfl)) ?_
            go_frame
            refine wpStill_of_exec rfl (exec_load_one 2 _ rfl w.heap.size 0 rfl (.int .i64 p) _ Try.underlying2 rfl k0) ?_
            go_frame
            refine wpStill_of_exec rfl (exec_rem _ _ _ _ rfl (E + (y : Int) * (sa * sb)) p ((E + (y : Int) * (sa * sb)) % p) rfl rfl hp0 w3) ?_
            go_frame
            refine wpStill_of_exec rfl (exec_nilCheck _ rfl ⟨gs i, l, none⟩ rfl) ?_
            go_frame
            refine wpStill_nil ?_
            go_wp2_with (refine wpList_store_one rfl 2 _ _ rfl rfl (gs i) l rfl (.int .i64 ((E + (y : Int) * (sa * sb)) % p)) rfl rfl rfl _ _ (At.drewN hA 2) (by kernel_rfl) (by rw [iar_size, matC_len]; exact hlK) ?_; intro w5 p5)
            rw [iar_set, Hset.out] at p5
            have hq5 := p5.other (hqx.drewN 2) (by have := hg2 i hiN; omega)
            have hh5 := p5.other (hsh.drewN 2) (by have := hgl i hiN; omega)
            have hP5 := PM.put (wr := wr.drewN 2) (hP.after (below_drawn (Below.refl _ _) 2)) hiN (fun x hx => Hne.out x hx) (by rw [matC_len, matC_len]) p5
            have hs5 : hi ≤ w5.heap.size := by have e : w5.heap.size = (wr.drewN 2).heap.size := p5.size (n := (wr.drewN 2).heap.size) rfl; rw [e]; exact hhi2
            go_roundw
            case rel => exact ⟨c + 1, by omega, by go_num, hs5, hP5, hh5, hq5⟩
            case measure => simp [intOf]; omega
          · obtain rfl : c = N * K := by omega
            have hP2 := hP.congr (row' := matC p (mkS qs X Y N M) (mkC qs) K (t + 1) 0) (fun x hx => (matC_next _ _ _ _ _ _ _ hx).symm)
            go_wp2_with fail
            go_roundw
            case rel => exact ⟨t + 1, by omega, by go_num, hhi2, hP2, hsh⟩
            case measure => simp [intOf]; omega
    · obtain rfl : t = qs.length := by omega
      go_wp2_with fail
      go_ret2
      exact ⟨_, rfl, .inr ⟨g, cM, cs, gs, rfl, hP.mat.out, ⟨by have := hP.mat.og; omega, by have := hP.mat.og; omega⟩, hP.mat.cell, fun i hi => ⟨(hP.mat.row i hi).1, by have := (hP.mat.row i hi).2; omega, by have := (hP.mat.row i hi).2; omega⟩, hP.mat.inj⟩, hP.below⟩
end Go.Proofs.Ytpoekhpchhmkaaa
