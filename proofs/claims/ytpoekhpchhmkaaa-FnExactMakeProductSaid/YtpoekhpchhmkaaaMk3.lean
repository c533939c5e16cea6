/-
  spec.l01Make.
-/
import Derived.Test.YtpoekhpchhmkaaaMk1
import Derived.Test.YtpoekhpchhmkaaaPln3
import Derived.Test.YtpoekhpchhmkaaaLK1
namespace Go.Proofs.Ytpoekhpchhmkaaa
open Go.RowKit
set_option maxRecDepth 100000
theorem call_l01At (args : Array Value) (w : World) : (callFunc 68 args).run Try.prog w = .ok (.enter 68 args) w := by kernel_rfl
theorem OutR.ge {w : World} {lo hi k g : Nat} {gs : Nat → Nat} {row : Nat → List Int} {v : Value} (h : OutR w lo hi v gs k row) (hg : v.ownBlock = some g) : lo ≤ g := by
  rcases h.own.2 with ⟨rfl, _⟩ | ⟨g', cap, cur, rfl, hb, _⟩
  · cases hg
  · simp only [Value.ownBlock, Option.some.injEq] at hg
    omega
def qAt (qs : List (List Nat)) (t : Nat) : List Nat := qs[t]?.getD []
def mkS (qs : List (List Nat)) (X Y : Nat → List Int) (N M t : Nat) : Int := sumF (segm (qAt qs t) 0 9) (catI X N) (tot X N) * sumF (segm (qAt qs t) 9 9) (catI Y M) (tot Y M)
def mkC (qs : List (List Nat)) (t c : Nat) : Int := (((qAt qs t)[18 + c]?.getD 0 : Nat) : Int)
set_option maxHeartbeats 3200000 in
theorem l01Make_c (p : Int) (N M K : Nat) (A0 : Option Addr) (c0 : Nat) (qs : List (List Nat)) (A B : Option Addr) (c1 c2 : Nat) (X Y : Nat → List Int) (w : World) (hq : Rd w A0 qs) (hlen : qs.length ≤ 30) (hX : RdM w A N X) (hY : RdM w B M Y)
    (hp : primeB p = true) (hN1 : 1 ≤ N) (hN : N ≤ 3) (hM : M ≤ 3) (hK1 : 1 ≤ K) (hK : K ≤ 3) (hXt : tot X N ≤ 9) (hYt : tot Y M ≤ 9)
    (hXr : ∀ i, i < N → ∀ x ∈ X i, 0 ≤ x ∧ x ≤ 5) (hYr : ∀ i, i < M → ∀ x ∈ Y i, 0 ≤ x ∧ x ≤ 5) :
    Calls Try.prog 43 #[.agg #[.int .i64 p, .int .i64 N, .int .i64 M, .int .i64 K, .slice A0 qs.length c0], .slice A N c1, .slice B M c2] w (NewM w N (matC p (mkS qs X Y N M) (mkC qs) K qs.length 0)) := by
  have hpp : 0 < p ∧ p ≤ 5 := by
    simp only [primeB, Bool.or_eq_true, beq_iff_eq] at hp
    omega
  have hp0 : p ≠ 0 := by omega
  clear hp
  go_enter Try.func43, Try.ntmps43
  go_wp2_with fail
  have HS := OutR.start (row := fun _ => List.replicate K 0) (gs := fun _ => 0) (New.alloc (w.alloc (.cells #[.int .i64 p, .int .i64 N, .int .i64 M, .int .i64 K, .slice A0 qs.length c0] 31 (0, 0))) (.cells #[] 66 (0, 0)))
  rw [size_al1] at HS
  go_loopw [7, 8] (fun ov iv wr => ∃ (a : Nat) (gs : Nat → Nat), a ≤ N ∧ iv = .int .i64 a ∧ Below w.heap.size w wr ∧ At wr w.heap.size (.cells #[.int .i64 p, .int .i64 N, .int .i64 M, .int .i64 K, .slice A0 qs.length c0] 31 (0, 0)) ∧ OutR wr (w.heap.size + 1) wr.heap.size ov gs a (fun _ => List.replicate K 0)) (fun _ iv _ => N - (intOf iv).toNat)
  case atStart => exact ⟨0, _, by omega, rfl, below2 _ _ _, al2_0 _ _ _, HS⟩
  case round =>
    clear HS
    obtain ⟨a, gs, ha, rfl, hB, hb, hO⟩ := hrel
    by_cases hlt : a < N
    · have e0 : IntKind.i64.wrap ((a : Int) + 1) = (a : Int) + 1 := IntWalk.i64_in _ (by omega)
      have hk' : (a : Int) < (N : Int) := by omega
      have hsz := hB.size
      have hbl := hb.lt
      have k1 : wr.cell? ⟨w.heap.size, 1, none⟩ = some (.int .i64 N) := hb.at_ 1
      have k3 : wr.cell? ⟨w.heap.size, 3, none⟩ = some (.int .i64 K) := hb.at_ 3
      obtain ⟨i0, hi0, hz0, hz1, hz2⟩ := info_parts infoIS
      go_wp2_with (first | (refine wpList_make_one rfl _ _ 66 rfl 2 (.int .i64 0) 8 Try.underlying66 infoI64 rfl K rfl rfl (by omega) (by omega) ?_; intro w2 n2; have hA2 := n2.at_; rw [iar_zero] at hA2; have hO2 := hO.below (n2.below (Below.refl _ _) (Nat.le_refl _)); have hb2 := n2.old hb; have hB2 := n2.below hB hsz) | (refine wpList_buildRow rfl _ rfl _ _ _ rfl ?_; intro W7 n7; have hO7 := hO2.below (n7.below (Below.refl _ _) (Nat.le_refl _)); have hA7 := n7.old hA2; have hb7 := n7.old hb2; have hB7 := n7.below hB2 hB2.size; have hl7 := hb7.lt) | (at_builtin; refine wpList_append_own _ rfl _ _ 44 rfl (w.heap.size + 1) 66 i0 (.slice none 0 0) 1 24 Try.underlying44 hi0 hz0 hz1 hz2 rfl (by decide) _ _ _ rfl hO7.own ⟨_, 0, none⟩ 1 1 [_] rfl rfl (cells_of_newR n7) (by simp [Value.oneCell']) (by unfold maxLen; omega) (by omega) (by omega) ?_; intro v1 W8 own8 gr8 nil8))
      have hO8 := hO7.append (by omega) (Nat.le_refl _) hA7 (by simp) gr8 own8
      have hb8 := hb7.grown gr8 (fun e => by have := hO7.ge e.symm; omega)
      have hB8 : Below w.heap.size w W8 := hB7.grown gr8 hB7.size (fun k hk => by have := hO7.ge hk; omega)
      go_roundw
      case rel => exact ⟨a + 1, _, by omega, by go_num, hB8, hb8, hO8⟩
      case measure => simp [intOf]; omega
    · obtain rfl : a = N := by omega
      have k1 : wr.cell? ⟨w.heap.size, 1, none⟩ = some (.int .i64 a) := hb.at_ 1
      rcases hO.to (Nat.le_refl _) with ⟨_, h0⟩ | ⟨g, cM, cs, gs', rfl, hMat⟩
      · omega
      have hPM : ∃ hi, hi ≤ wr.heap.size ∧ PM w #[.int .i64 p, .int .i64 a, .int .i64 M, .int .i64 K, .slice A0 qs.length c0] 31 w.heap.size (w.heap.size + 1) hi g cs gs' a (matC p (mkS qs X Y a M) (mkC qs) K 0 0) wr := ⟨_, Nat.le_refl _, hB, hb, hMat.congr fun i _ => matC_zero _ _ _ _ _, fun i hi => by have := (hMat.row i hi).2.1; omega⟩
      clear hO hMat hB hb gs
      generalize hNa : a = N at *
      clear hNa ha hlt
      go_wp2_with fail
      go_loopw [9] (fun iv wr => ∃ t : Nat, t ≤ qs.length ∧ iv = .int .i64 t ∧ ∃ hi, hi ≤ wr.heap.size ∧ PM w #[.int .i64 p, .int .i64 N, .int .i64 M, .int .i64 K, .slice A0 qs.length c0] 31 w.heap.size (w.heap.size + 1) hi g cs gs' N (matC p (mkS qs X Y N M) (mkC qs) K t 0) wr) (fun iv _ => qs.length - (intOf iv).toNat)
      case atStart => exact ⟨0, by omega, rfl, hPM⟩
      case round =>
        clear hPM k1
        obtain ⟨t, ht, rfl, hi, hhi, hP⟩ := hrel
        obtain ⟨wa, rfl⟩ : ∃ wa : World, wa = wr := ⟨_, rfl⟩
        have c4 : wa.cell? ⟨w.heap.size, 4, none⟩ = some (.slice A0 qs.length c0) := hP.box.at_ 4
        by_cases hlt : t < qs.length
        · have e0 : IntKind.i64.wrap ((t : Int) + 1) = (t : Int) + 1 := IntWalk.i64_in _ (by omega)
          have hk' : (t : Int) < (qs.length : Int) := by omega
          obtain ⟨b0, off0, hA0e, hcq⟩ := (hq.keep hP.below).at_ hlt
          have hqb := hq.good qs[t] (List.getElem_mem hlt)
          have hqa : qAt qs t = qs[t] := by simp [qAt, hlt]
          have hgl : ∀ i, i < N → gs' i < wa.heap.size := fun i hi => (hP.mat.row i hi).1.lt
          have hwl := hP.box.lt
          subst hA0e
          have Hc := Lib.hid hcq
          have HA := Lib.hid (fun w h => l01At_c (segm qs[t] 0 9) A c1 N X w (segm_bytes hqb (by omega)) h hN hXt hXr)
          have HBB := Lib.hid (fun w h => l01At_c (segm qs[t] 9 9) B c2 M Y w (segm_bytes hqb (by omega)) h hM hYt hYr)
          have ba := sumF_in (segm_bytes (a := 0) (n := 9) hqb (by omega)) (xs := catI X N) (fun x h => by obtain ⟨i, hi, hm⟩ := catI_mem h; exact hXr i hi x hm) (tot X N)
          have bb := sumF_in (segm_bytes (a := 9) (n := 9) hqb (by omega)) (xs := catI Y M) (fun x h => by obtain ⟨i, hi, hm⟩ := catI_mem h; exact hYr i hi x hm) (tot Y M)
          have HSt : Hid (mkS qs X Y N M t = sumF (segm qs[t] 0 9) (catI X N) (tot X N) * sumF (segm qs[t] 9 9) (catI Y M) (tot Y M)) := Lib.hid (by rw [mkS, hqa])
          have HC : Hid (∀ c, mkC qs t c = ((qs[t][18 + c]?.getD 0 : Nat) : Int)) := Lib.hid (fun c => by rw [mkC, hqa])
          clear hcq hqa c4
          have c4 : wa.cell? ⟨w.heap.size, 4, none⟩ = some (.slice (some ⟨b0, off0, none⟩) qs.length c0) := hP.box.at_ 4
          generalize sumF (segm qs[t] 0 9) (catI X N) (tot X N) = sa at *
          generalize sumF (segm qs[t] 9 9) (catI Y M) (tot Y M) = sb at *
          generalize qs[t] = q at *
          have hq27 := hqb.len
          have p1 := Int.emod_nonneg sa hp0
          have p2 := Int.emod_lt_of_pos sa hpp.1
          have p3 := Int.emod_nonneg sb hp0
          have p4 := Int.emod_lt_of_pos sb hpp.1
          obtain ⟨r3, _, _⟩ := rem_in (s := 0) hpp.1 hpp.2 ⟨Int.le_refl _, hpp.1⟩ ⟨p1, p2⟩ ⟨p3, p4⟩
          have r1 : sa.tmod p = sa % p := Int.tmod_eq_emod_of_nonneg ba.1
          have r2 : sb.tmod p = sb % p := Int.tmod_eq_emod_of_nonneg bb.1
          have r4 : (sa % p * (sb % p)).tmod p = sa % p * (sb % p) % p := Int.tmod_eq_emod_of_nonneg (Int.mul_nonneg p1 p3)
          go_upto_region 10 with (first | (refine wpList_load_cells rfl 37 _ rfl b0 (off0 + t * 27) rfl q _ 27 Hc.out Try.underlying37 rfl (by kernel_rfl) hq27 ?_) | (refine wpList_abs1 ?_; intro W2 hsz2 hB2 q2; replace q2 : At W2 wa.heap.size (.cells (u8s (List.replicate 27 0)) 37 (0, 0)) := q2; replace hP := hP.after hB2) | (refine wpList_store_u8s rfl 37 _ _ rfl rfl wa.heap.size 0 rfl q rfl _ _ q2 27 (by kernel_rfl) hq27 (by simp) ?_; intro W3 q3))
          have hqx := q3.at_
          rw [over_all (by simp [hq27])] at hqx
          replace hP : PM w _ _ w.heap.size (w.heap.size + 1) hi g cs gs' N _ W3 := ⟨q3.below hP.below (by omega), q3.other hP.box (by omega), hP.mat.keepR (fun x o h1 h2 h3 => q3.other h3 (fun e => by
            omega)), hP.ne⟩
          have hsz3 : hi ≤ W3.heap.size := by have := hqx.lt; omega
          clear q3 q2 hB2 hsz2 c4
          go_cut [11] from 40 to 57 (fun s11 wx => s11 = .int .i64 (sa % p * (sb % p) % p) ∧ hi ≤ wx.heap.size ∧ PM w #[.int .i64 p, .int .i64 N, .int .i64 M, .int .i64 K, .slice (some ⟨b0, off0, none⟩) qs.length c0] 31 w.heap.size (w.heap.size + 1) hi g cs gs' N (matC p (mkS qs X Y N M) (mkC qs) K t 0) wx ∧ At wx wa.heap.size (.cells (u8s q) 37 (0, 0)))
          case first =>
            go_wp2_with fail
            refine wp_region_held (S := fun w' => At w' w.heap.size (.cells #[.int .i64 p, .int .i64 N, .int .i64 M, .int .i64 K, .slice (some ⟨b0, off0, none⟩) qs.length c0] 31 (0, 0)) ∧ At w' wa.heap.size (.cells (u8s q) 37 (0, 0))) (by kernel_rfl) ?_
            change wpAnyH _ _ _ _ _ _ _ _ (World.drew _)
            replace hP : PM w _ _ _ _ hi g cs gs' N _ W3.drew := hP.after (Below.refl _ _).drew
            replace hqx : At W3.drew wa.heap.size _ := hqx
            replace hsz3 : hi ≤ W3.drew.heap.size := hsz3
            have hbx := hP.box
            generalize W3.drew = wd at *
            refine held_yield 0 (some 40) (.pointer (some ⟨wa.heap.size, 0, none⟩)) rfl (by kernel_rfl) (by kernel_rfl) (by kernel_rfl) (fun _ _ _ h => h) rfl rfl ⟨hbx, hqx⟩ (fun w' h' => exec_fieldAddr 37 _ 0 rfl (.pointer (some ⟨wa.heap.size, 0, none⟩)) (by kernel_rfl)) ?_
            go_frame
            refine held_yield 1 (some 41) (.agg (u8s (segm q 0 9))) rfl (by kernel_rfl) (by kernel_rfl) (by kernel_rfl) (fun _ _ _ h => h) rfl rfl ⟨hbx, hqx⟩ (fun w' h' => exec_load_u8s 35 _ rfl wa.heap.size 0 rfl _ q _ 9 h'.2 Try.underlying35 rfl (by kernel_rfl) (by omega)) ?_
            go_frame
            refine held_yield 2 (some 42) (.slice A N c1) rfl (by kernel_rfl) (by kernel_rfl) (by kernel_rfl) (fun _ _ _ h => h) rfl rfl ⟨hbx, hqx⟩ (fun w' h' => exec_move _ rfl (.slice A N c1) rfl) ?_
            go_frame
            refine held_yield 4 (some 44) (.pointer (some ⟨w.heap.size, 0, none⟩)) rfl (by kernel_rfl) (by kernel_rfl) (by kernel_rfl) (fun _ _ _ h => h) rfl rfl ⟨hbx, hqx⟩ (fun w' h' => exec_fieldAddr 31 _ 0 rfl (.pointer (some ⟨w.heap.size, 0, none⟩)) (by kernel_rfl)) ?_
            go_frame
            refine held_yield 5 (some 45) (.int .i64 p) rfl (by kernel_rfl) (by kernel_rfl) (by kernel_rfl) (fun _ _ _ h => h) rfl rfl ⟨hbx, hqx⟩ (fun w' h' => exec_load_one 2 _ rfl w.heap.size 0 rfl (.int .i64 p) _ Try.underlying2 rfl (h'.1.at_ 0)) ?_
            go_frame
            refine held_yield 7 (some 47) (.pointer (some ⟨wa.heap.size, 9, none⟩)) rfl (by kernel_rfl) (by kernel_rfl) (by kernel_rfl) (fun _ _ _ h => h) rfl rfl ⟨hbx, hqx⟩ (fun w' h' => exec_fieldAddr 37 _ 1 rfl (.pointer (some ⟨wa.heap.size, 9, none⟩)) (by kernel_rfl)) ?_
            go_frame
            refine held_yield 8 (some 48) (.agg (u8s (segm q 9 9))) rfl (by kernel_rfl) (by kernel_rfl) (by kernel_rfl) (fun _ _ _ h => h) rfl rfl ⟨hbx, hqx⟩ (fun w' h' => exec_load_u8s 35 _ rfl wa.heap.size 9 rfl _ q _ 9 h'.2 Try.underlying35 rfl (by kernel_rfl) (by omega)) ?_
            go_frame
            refine held_yield 9 (some 49) (.slice B M c2) rfl (by kernel_rfl) (by kernel_rfl) (by kernel_rfl) (fun _ _ _ h => h) rfl rfl ⟨hbx, hqx⟩ (fun w' h' => exec_move _ rfl (.slice B M c2) rfl) ?_
            go_frame
            refine held_yield 11 (some 51) (.pointer (some ⟨w.heap.size, 0, none⟩)) rfl (by kernel_rfl) (by kernel_rfl) (by kernel_rfl) (fun _ _ _ h => h) rfl rfl ⟨hbx, hqx⟩ (fun w' h' => exec_fieldAddr 31 _ 0 rfl (.pointer (some ⟨w.heap.size, 0, none⟩)) (by kernel_rfl)) ?_
            go_frame
            refine held_yield 12 (some 52) (.int .i64 p) rfl (by kernel_rfl) (by kernel_rfl) (by kernel_rfl) (fun _ _ _ h => h) rfl rfl ⟨hbx, hqx⟩ (fun w' h' => exec_load_one 2 _ rfl w.heap.size 0 rfl (.int .i64 p) _ Try.underlying2 rfl (h'.1.at_ 0)) ?_
            go_frame
            refine held_yield 15 (some 55) (.pointer (some ⟨w.heap.size, 0, none⟩)) rfl (by kernel_rfl) (by kernel_rfl) (by kernel_rfl) (fun _ _ _ h => h) rfl rfl ⟨hbx, hqx⟩ (fun w' h' => exec_fieldAddr 31 _ 0 rfl (.pointer (some ⟨w.heap.size, 0, none⟩)) (by kernel_rfl)) ?_
            go_frame
            refine held_yield 16 (some 56) (.int .i64 p) rfl (by kernel_rfl) (by kernel_rfl) (by kernel_rfl) (fun _ _ _ h => h) rfl rfl ⟨hbx, hqx⟩ (fun w' h' => exec_load_one 2 _ rfl w.heap.size 0 rfl (.int .i64 p) _ Try.underlying2 rfl (h'.1.at_ 0)) ?_
            go_frame
            refine held_oper 3 (by kernel_rfl) rfl rfl (fun K' hK' => ?_)
            refine wp_call2 (some 43) rfl 68 _ _ _ rfl call_l01At _ _ rfl rfl _ (HA.out _ (hX.keep hP.below)) (fun e w6 h => ?_)
            obtain ⟨rfl, b6⟩ := h
            replace hsz3 := Nat.le_trans hsz3 b6.size
            replace hP := hP.after b6
            replace hbx := At.after hbx b6
            replace hqx := At.after hqx b6
            refine ⟨_, rfl, hK' _ _ ⟨hbx, hqx⟩ ?_⟩
            clear hK' K' b6
            go_frame
            refine held_yield 6 (some 46) (.int .i64 (sa % p)) rfl (by kernel_rfl) (by kernel_rfl) (by kernel_rfl) (fun _ _ _ h => h) rfl rfl ⟨hbx, hqx⟩ (fun w' h' => exec_rem _ _ _ _ rfl sa p (sa % p) rfl rfl hp0 r1) ?_
            go_frame
            refine held_oper 10 (by kernel_rfl) rfl rfl (fun K' hK' => ?_)
            refine wp_call2 (some 50) rfl 68 _ _ _ rfl call_l01At _ _ rfl rfl _ (HBB.out _ (hY.keep hP.below)) (fun e w6 h => ?_)
            obtain ⟨rfl, b6⟩ := h
            replace hsz3 := Nat.le_trans hsz3 b6.size
            replace hP := hP.after b6
            replace hbx := At.after hbx b6
            replace hqx := At.after hqx b6
            refine ⟨_, rfl, hK' _ _ ⟨hbx, hqx⟩ ?_⟩
            clear hK' K' b6
            go_frame
            refine held_yield 13 (some 53) (.int .i64 (sb % p)) rfl (by kernel_rfl) (by kernel_rfl) (by kernel_rfl) (fun _ _ _ h => h) rfl rfl ⟨hbx, hqx⟩ (fun w' h' => exec_rem _ _ _ _ rfl sb p (sb % p) rfl rfl hp0 r2) ?_
            go_frame
            refine held_yield 14 (some 54) (.int .i64 (sa % p * (sb % p))) rfl (by kernel_rfl) (by kernel_rfl) (by kernel_rfl) (fun _ _ _ h => h) rfl rfl ⟨hbx, hqx⟩ (fun w' h' => exec_mul _ _ _ _ rfl (sa % p) (sb % p) (sa % p * (sb % p)) rfl rfl r3) ?_
            go_frame
            refine held_yield 17 (some 57) (.int .i64 (sa % p * (sb % p) % p)) rfl (by kernel_rfl) (by kernel_rfl) (by kernel_rfl) (fun _ _ _ h => h) rfl rfl ⟨hbx, hqx⟩ (fun w' h' => exec_rem _ _ _ _ rfl (sa % p * (sb % p)) p (sa % p * (sb % p) % p) rfl rfl hp0 r4) ?_
            go_frame
            refine held_yield 18 (some 11) (.int .i64 (sa % p * (sb % p) % p)) rfl (by kernel_rfl) (by kernel_rfl) (by kernel_rfl) (fun _ _ _ h => h) rfl rfl ⟨hbx, hqx⟩ (fun w' h' => exec_assign _ rfl (.int .i64 (sa % p * (sb % p) % p)) rfl) ?_
            go_frame
            refine wpAnyH_done (by kernel_rfl) ?_ _
            go_wp2_with fail
            go_meet
            exact ⟨rfl, hsz3, hP, hqx⟩
          case rest =>
            clear hP hqx hsz3
            obtain ⟨rfl, hhi2, hP, hqx⟩ := hcut
            have v1 := Int.emod_nonneg (sa % p * (sb % p)) hp0
            have v2 := Int.emod_lt_of_pos (sa % p * (sb % p)) hpp.1
            have HV := Lib.hid (fun E (y : Nat) => val_mod E (y : Int) sa sb p)
            generalize sa % p * (sb % p) % p = v at *
            clear HA HBB r1 r2 r3 r4 p1 p2 p3 p4 ba bb hhi
            go_wp2_with fail
            go_loopw [12] (fun iv wr => ∃ i : Nat, i ≤ N ∧ iv = .int .i64 i ∧ hi ≤ wr.heap.size ∧ PM w #[.int .i64 p, .int .i64 N, .int .i64 M, .int .i64 K, .slice (some ⟨b0, off0, none⟩) qs.length c0] 31 w.heap.size (w.heap.size + 1) hi g cs gs' N (matC p (mkS qs X Y N M) (mkC qs) K t (i * K)) wr ∧ At wr wa.heap.size (.cells (u8s q) 37 (0, 0))) (fun iv _ => N - (intOf iv).toNat)
            case atStart => exact ⟨0, by omega, rfl, hhi2, by rw [Nat.zero_mul]; exact hP, hqx⟩
            case round =>
              clear hP hqx hhi2
              obtain ⟨i, hii, rfl, hhi2, hP, hqx⟩ := hrel
              have k1 : wr.cell? ⟨w.heap.size, 1, none⟩ = some (.int .i64 N) := hP.box.at_ 1
              by_cases hlt3 : i < N
              · have f0 : IntKind.i64.wrap ((i : Int) + 1) = (i : Int) + 1 := IntWalk.i64_in _ (by omega)
                have hi3 : (i : Int) < (N : Int) := by omega
                have hci := hP.mat.cell i hlt3
                rw [matC_len] at hci
                have hc0 : wr.cell? ⟨g, i, none⟩ = some (.slice (some ⟨gs' i, 0, none⟩) K K) := by rw [hP.mat.out.at_ i, hci]
                go_wp2_with fail
                go_loopw [14] (fun iv wr => ∃ l : Nat, l ≤ K ∧ iv = .int .i64 l ∧ hi ≤ wr.heap.size ∧ PM w #[.int .i64 p, .int .i64 N, .int .i64 M, .int .i64 K, .slice (some ⟨b0, off0, none⟩) qs.length c0] 31 w.heap.size (w.heap.size + 1) hi g cs gs' N (matC p (mkS qs X Y N M) (mkC qs) K t (i * K + l)) wr ∧ At wr wa.heap.size (.cells (u8s q) 37 (0, 0))) (fun iv _ => K - (intOf iv).toNat)
                case atStart => exact ⟨0, by omega, rfl, hhi2, hP, hqx⟩
                case round =>
                  clear hP hqx hhi2 hci hc0 k1
                  obtain ⟨l, hl, rfl, hhi2, hP, hqx⟩ := hrel
                  have k3 : wr.cell? ⟨w.heap.size, 3, none⟩ = some (.int .i64 K) := hP.box.at_ 3
                  have k0 : wr.cell? ⟨w.heap.size, 0, none⟩ = some (.int .i64 p) := hP.box.at_ 0
                  by_cases hlt4 : l < K
                  · have g0 : IntKind.i64.wrap ((l : Int) + 1) = (l : Int) + 1 := IntWalk.i64_in _ (by omega)
                    have hl4 : (l : Int) < (K : Int) := by omega
                    have h9 : i * K + l < 9 := mul9 hK (by omega) hlt4
                    have hik : i * K ≤ 6 := mul_le9 hK (by omega)
                    have m1 : IntKind.i64.wrap ((i : Int) * (K : Int)) = ((i * K : Nat) : Int) := by rw [← Int.natCast_mul]; exact IntWalk.i64_in _ (by omega)
                    have m2 : IntKind.i64.wrap (((i * K : Nat) : Int) + (l : Int)) = ((i * K + l : Nat) : Int) := by rw [← Int.natCast_add]; exact IntWalk.i64_in _ (by omega)
                    have hA := (hP.mat.row i hlt3).1
                    have hcs : wr.cell? ⟨gs' i, l, none⟩ = some (.int .i64 (mkE p (mkS qs X Y N M) (mkC qs) (i * K + l) t)) := by rw [hA.at_ l, matC_get _ _ _ _ _ hlt4]
                    have bE := mkE_in (p := p) (mkS qs X Y N M) (mkC qs) (i * K + l) hpp.1 t
                    have hcy : wr.cell? ⟨wa.heap.size, 18 + (i * K + l) * 1, none⟩ = some (.int .u8 ((q[18 + (i * K + l)]?.getD 0 : Nat) : Int)) := by rw [Nat.mul_one]; exact hqx.cell (by omega)
                    have by' := hqb.lt (18 + (i * K + l))
                    have hst : mkE p (mkS qs X Y N M) (mkC qs) (i * K + l) (t + 1) = (mkE p (mkS qs X Y N M) (mkC qs) (i * K + l) t + ((q[18 + (i * K + l)]?.getD 0 : Nat) : Int) * v) % p := by
                      rw [HV.out, ← HSt.out, ← HC.out]
                      rfl
                    have Hset := Lib.hid (matC_set p (mkS qs X Y N M) (mkC qs) t i hlt4)
                    rw [hst] at Hset
                    clear hst
                    obtain ⟨w1, w2, w3⟩ := term_in (E := mkE p (mkS qs X Y N M) (mkC qs) (i * K + l) t) hpp.1 hpp.2 bE (s := v) ⟨v1, by omega⟩ by'
                    generalize hE : mkE p (mkS qs X Y N M) (mkC qs) (i * K + l) t = E at hcs w1 w2 w3 bE Hset
                    generalize q[18 + (i * K + l)]?.getD 0 = y at *
                    go_wp2_with fail
                    refine wp_region_still_tail (P := Try.prog) 23 (by kernel_rfl) (by kernel_rfl) ?_
                    simp only [List.take_succ_cons, List.take_zero, List.drop_succ_cons, List.drop_zero]
                    refine wpStill_of_exec rfl (exec_move _ rfl (.slice (some ⟨gs' i, 0, none⟩) K K) rfl) ?_
                    go_frame
                    refine wpStill_of_exec rfl (exec_move _ rfl (.int .i64 l) rfl) ?_
                    go_frame
                    refine wpStill_of_exec rfl (exec_move _ rfl (.slice (some ⟨gs' i, 0, none⟩) K K) rfl) ?_
                    go_frame
                    refine wpStill_of_exec rfl (exec_move _ rfl (.int .i64 l) rfl) ?_
                    go_frame
                    refine wpStill_of_exec rfl (exec_index0 _ 2 _ _ rfl (gs' i) K K l rfl rfl Try.underlying66 (by kernel_rfl) hlt4) ?_
                    go_frame
                    refine wpStill_of_exec rfl (exec_load_one 2 _ rfl (gs' i) l rfl (.int .i64 E) _ Try.underlying2 rfl hcs) ?_
                    go_frame
                    refine wpStill_of_exec rfl (exec_move _ rfl (.int .i64 i) rfl) ?_
                    go_frame
                    refine wpStill_of_exec rfl (exec_fieldAddr 31 _ 3 rfl (.pointer (some ⟨w.heap.size, 3, none⟩)) (by kernel_rfl)) ?_
                    go_frame
                    refine wpStill_of_exec rfl (exec_load_one 2 _ rfl w.heap.size 3 rfl (.int .i64 K) _ Try.underlying2 rfl k3) ?_
                    go_frame
                    refine wpStill_of_exec rfl (exec_mul _ _ _ _ rfl i K ((i * K : Nat) : Int) rfl rfl m1) ?_
                    go_frame
                    refine wpStill_of_exec rfl (exec_move _ rfl (.int .i64 l) rfl) ?_
                    go_frame
                    refine wpStill_of_exec rfl (exec_add _ _ _ _ rfl ((i * K : Nat) : Int) l ((i * K + l : Nat) : Int) rfl rfl m2) ?_
                    go_frame
                    refine wpStill_of_exec rfl (exec_fieldAddr 37 _ 2 rfl (.pointer (some ⟨wa.heap.size, 18, none⟩)) (by kernel_rfl)) ?_
                    go_frame
                    refine wpStill_of_exec rfl (exec_index_arr _ 5 _ _ rfl wa.heap.size 18 9 (i * K + l) 1 rfl rfl Try.underlying35 (by kernel_rfl) h9) ?_
                    go_frame
                    refine wpStill_of_exec rfl (exec_load_one 5 _ rfl wa.heap.size (18 + (i * K + l) * 1) rfl (.int .u8 (y : Int)) _ Try.underlying5 rfl hcy) ?_
                    go_frame
                    refine wpStill_of_exec rfl (exec_conv _ rfl y rfl by') ?_
                    go_frame
                    refine wpStill_of_exec rfl (exec_move _ rfl (.int .i64 v) rfl) ?_
                    go_frame
                    refine wpStill_of_exec rfl (exec_mul _ _ _ _ rfl y v ((y : Int) * v) rfl rfl w1) ?_
                    go_frame
                    refine wpStill_of_exec rfl (exec_add _ _ _ _ rfl E ((y : Int) * v) (E + (y : Int) * v) rfl rfl w2) ?_
                    go_frame
                    refine wpStill_of_exec rfl (exec_fieldAddr 31 _ 0 rfl (.pointer (some ⟨w.heap.size, 0, none⟩)) (by kernel_rfl)) ?_
                    go_frame
                    refine wpStill_of_exec rfl (exec_load_one 2 _ rfl w.heap.size 0 rfl (.int .i64 p) _ Try.underlying2 rfl k0) ?_
                    go_frame
                    refine wpStill_of_exec rfl (exec_rem _ _ _ _ rfl (E + (y : Int) * v) p ((E + (y : Int) * v) % p) rfl rfl hp0 w3) ?_
                    go_frame
                    refine wpStill_of_exec rfl (exec_index0 _ 2 _ _ rfl (gs' i) K K l rfl rfl Try.underlying66 (by kernel_rfl) hlt4) ?_
                    go_frame
                    refine wpStill_nil ?_
                    go_wp2_with (refine wpList_store_one rfl 2 _ _ rfl rfl (gs' i) l rfl (.int .i64 ((E + (y : Int) * v) % p)) rfl rfl rfl _ _ (At.drewN hA 1) (by kernel_rfl) (by rw [iar_size, matC_len]; exact hlt4) ?_; intro w5 p5)
                    rw [iar_set, Hset.out] at p5
                    have hg1 := hgl i hlt3
                    have hq5 := p5.other (hqx.drewN 1) (by omega)
                    have hP5 := PM.put (wr := wr.drewN 1) (hP.after (below_drawn (Below.refl _ _) 1)) hlt3 (fun x hx => matC_ne p (mkS qs X Y N M) (mkC qs) t i hlt4 x hx) (by rw [matC_len, matC_len]) p5
                    have hs5 : hi ≤ w5.heap.size := by have := p5.size (n := (wr.drewN 1).heap.size) rfl; have e : w5.heap.size = (wr.drewN 1).heap.size := this; rw [e]; exact hhi2
                    go_roundw
                    case rel => exact ⟨l + 1, by omega, by go_num, hs5, hP5, hq5⟩
                    case measure => simp [intOf]; omega
                  · obtain rfl : l = K := by omega
                    go_wp2_with fail
                    go_roundw
                    case rel => exact ⟨i + 1, by omega, by go_num, hhi2, by rw [Nat.succ_mul]; exact hP, hqx⟩
                    case measure => simp [intOf]; omega
              · obtain rfl : i = N := by omega
                have hP2 := hP.congr (row' := matC p (mkS qs X Y i M) (mkC qs) K (t + 1) 0) (fun x hx => (matC_next _ _ _ _ _ _ _ hx).symm)
                go_wp2_with fail
                go_roundw
                case rel => exact ⟨t + 1, by omega, by go_num, hi, hhi2, hP2⟩
                case measure => simp [intOf]; omega
        · obtain rfl : t = qs.length := by omega
          go_wp2_with fail
          go_ret
          exact ⟨_, rfl, .inr ⟨g, cM, cs, gs', rfl, hP.mat.out, ⟨by have := hP.mat.og; omega, by have := hP.mat.og; omega⟩, hP.mat.cell, fun i hi => ⟨(hP.mat.row i hi).1, by have := (hP.mat.row i hi).2; omega, by have := (hP.mat.row i hi).2; omega⟩, hP.mat.inj⟩, hP.below⟩
end Go.Proofs.Ytpoekhpchhmkaaa
