/-
  impl.flipped. (Made by mkfp.py.)
-/
import Derived.Test.YtppenoincihoeaaFl
import Derived.Test.YtppenoincihoeaaNrm4
import Derived.Test.YtppenoincihoeaaPo
import Derived.Test.YtppenoincihoeaaDel3
namespace Go.Proofs.Ytppenoincihoeaa
open Go.RowKit
set_option maxRecDepth 100000
attribute [local irreducible] wpList
theorem exec_index_arr0f {P : Program} {o : Oper} {a : Act} {w : World} (ty e : TypeId) (x i : Operand) (ho : o.op = .indexAddr ty x i) (b len k s : Nat) (hx : a.eval x = .pointer (some ⟨b, 0, none⟩)) (hi : a.eval i = .int .i64 k) (hu : P.underlying ty = some (.array len e)) (hs : (P.info? e).map (·.size) = some s) (hlt : k < len) : (execOp a.eval o).run P w = .ok (.value (.pointer (some ⟨b, k * s, none⟩))) w := by
  have h := exec_index_arr (P := P) (w := w) ty e x i ho b 0 len k s hx hi hu hs hlt
  rwa [Nat.zero_add] at h
theorem cut_worldF {n : Nat} {w W : World} (_ : Below n w W) : ∃ x : World, x = W := ⟨W, rfl⟩
theorem set_len27 {qs : List (List Nat)} {i : Nat} {r : List Nat} (h : ∀ q ∈ qs, q.length = 27) (hr : r.length = 27) : ∀ q ∈ qs.set i r, q.length = 27 := fun q hq => by
  rcases List.mem_or_eq_of_mem_set hq with h1 | rfl
  · exact h q h1
  · exact hr
theorem set_bytes27 {qs : List (List Nat)} {i : Nat} {r : List Nat} (h : ∀ q ∈ qs, Bytes 27 q) (hr : Bytes 27 r) : ∀ q ∈ qs.set i r, Bytes 27 q := fun q hq => by
  rcases List.mem_or_eq_of_mem_set hq with h1 | rfl
  · exact h q h1
  · exact hr
/-- Two products flipped at a factor by s. -/
def flQ (p s : Int) (f : Nat) (Q R : List Nat) : List Nat := withQ Q ((f + 1) % 3) (adF p s (facQ Q ((f + 1) % 3)) (facQ R ((f + 1) % 3)))
def flR (p s : Int) (f : Nat) (Q R : List Nat) : List Nat := withQ R ((f + 2) % 3) (adF p (p - s) (facQ R ((f + 2) % 3)) (facQ (flQ p s f Q R) ((f + 2) % 3)))
def flL (p s : Int) (qs : List (List Nat)) (i j f : Nat) (Q R : List Nat) : List (List Nat) := ((qs.set i (flQ p s f Q R)).set j (flR p s f Q R)).filter nzB
theorem withProducts1_c (p n m k : Int) (v0 : Value) (hv0 : v0.oneCell' = true) (b : Nat) (A1 : Option Addr) (c1 : Nat) (q1 : List (List Nat)) (w : World)
    (hb : At w b (.cells #[.slice A1 q1.length c1] 26 (0, 0))) (h1 : Rd w A1 q1) (hc1 : A1 = none → c1 = 0) (ht : q1.length ≤ 1000000) :
    Calls Try.prog 44 #[.agg #[.int .i64 p, .int .i64 n, .int .i64 m, .int .i64 k, v0], .slice (some ⟨b, 0, none⟩) 1 1] w
      fun e w' => ∃ v, e = .returned (.agg #[.int .i64 p, .int .i64 n, .int .i64 m, .int .i64 k, v]) ∧ Own w' w.heap.size v q1 ∧ Below w.heap.size w w' := by
  have h := withProducts_c p n m k v0 hv0 (some ⟨b, 0, none⟩) 1 [(A1, c1, q1)] w (.inr ⟨b, 0, rfl, fun i P hi => by
      match i, hi with
      | 0, hi => simp at hi; subst hi; exact hb.at_ 0
      | i + 1, hi => simp at hi⟩) (fun P hP => by
      simp only [List.mem_cons, List.not_mem_nil, or_false] at hP
      subst hP
      exact ⟨h1, hc1⟩) (by simp) (by simp [sumP, Part.len]; omega)
  have e : catP [(A1, c1, q1)] [(A1, c1, q1)].length = q1 := by simp [catP]
  rw [e] at h
  exact h
theorem exec_bs1PP {o : Oper} {a : Act} {w : World} (x : Operand) (ho : o.op = .buildSlice 104 1 #[(0, x)]) (A : Option Addr) (n c : Nat) (hx : a.eval x = .slice A n c) :
    (execOp a.eval o).run Try.prog w = .ok (.value (.slice (some ⟨w.heap.size, 0, none⟩) 1 1)) (w.alloc (.cells #[.slice A n c] 26 (0, 0))) := by
  obtain ⟨i, hi0, hz, h1, h2⟩ := info_parts sx_infoSl
  have h := run_buildSlice (P := Try.prog) w 104 26 1 #[(0, .slice A n c)] #[.slice A n c] i (.slice none 0 0) Try.underlying104 hi0 hz (by rw [h1]; omega) (by rw [h1]; omega) (by rw [h1]; kernel_rfl)
  unfold execOp
  simp [ho, hx, h]
theorem Own.rdN2 {n : Nat} {w : World} {lo : Nat} {v : Value} {qs : List (List Nat)} (h : Own w lo v qs) (he : qs.length = n) : ∃ A c, v = .slice A n c := by
  subst he
  rcases h.shp with ⟨rfl, h0⟩ | ⟨g, c, rfl⟩
  · exact ⟨none, 0, by rw [h0]⟩
  · exact ⟨_, _, rfl⟩
theorem al__3_impl_Form {o : Oper} {a : Act} {w : World} (ho : o.op = .alloc 62) : (execOp a.eval o).run Try.prog w = .ok (.value (.pointer (some ⟨w.heap.size, 0, none⟩))) (w.alloc (.cells (u8s (List.replicate 27 0)) 62 (0, 0))) := by
  unfold execOp
  rw [ho]
  kernel_rfl
theorem al_impl_Scheme {o : Oper} {a : Act} {w : World} (ho : o.op = .alloc 28) : (execOp a.eval o).run Try.prog w = .ok (.value (.pointer (some ⟨w.heap.size, 0, none⟩))) (w.alloc (.cells #[.int .i64 0, .int .i64 0, .int .i64 0, .int .i64 0, .slice none 0 0] 28 (0, 0))) := by
  unfold execOp
  rw [ho]
  kernel_rfl
set_option maxHeartbeats 25600000 in
theorem flipped_c (p n m k s : Int) (b off c : Nat) (qs : List (List Nat)) (i j f : Nat) (Q R : List Nat) (w : World) (hR : Rd w (some ⟨b, off, none⟩) qs) (hQ : qs[i]? = some Q) (hRj : qs[j]? = some R) (hf : f < 3) (hne : i ≠ j) (hlen : qs.length ≤ 1000) (hp : 2 ≤ p ∧ p ≤ 5) (hs : 0 ≤ s ∧ s ≤ p) :
    Calls Try.prog 34 #[.agg #[.int .i64 p, .int .i64 n, .int .i64 m, .int .i64 k, .slice (some ⟨b, off, none⟩) qs.length c], .agg #[.int .i64 i, .int .i64 j, .int .i64 f], .int .i64 s] w (fun e w' => ∃ v, e = .returned (.agg #[.int .i64 p, .int .i64 n, .int .i64 m, .int .i64 k, v]) ∧ Own w' w.heap.size v (flL p s qs i j f Q R) ∧ Below w.heap.size w w') := by
  have hB := Below.refl w.heap.size w
  have HQi := Lib.hid hQ
  have HRj := Lib.hid hRj
  have HQ := Lib.hid (hR.good _ (List.mem_of_getElem? hQ))
  have HRb := Lib.hid (hR.good _ (List.mem_of_getElem? hRj))
  have hi := (List.getElem?_eq_some_iff.1 hQ).1
  have hj := (List.getElem?_eq_some_iff.1 hRj).1
  have HG27 : Hid (∀ q ∈ qs, q.length = 27) := Lib.hid (fun q hq => (hR.good q hq).len)
  obtain ⟨f1, hf1⟩ : ∃ z9, f + 1 = z9 := ⟨_, rfl⟩
  obtain ⟨f2, hf2⟩ : ∃ z9, f + 2 = z9 := ⟨_, rfl⟩
  obtain ⟨G, hG⟩ : ∃ z9, (f + 1) % 3 = z9 := ⟨_, rfl⟩
  obtain ⟨H, hH⟩ : ∃ z9, (f + 2) % 3 = z9 := ⟨_, rfl⟩
  have hG3 : G < 3 := by omega
  have hH3 : H < 3 := by omega
  have Hf1 : Hid (IntKind.i64.wrap ((f : Int) + 1) = (f1 : Int)) := Lib.hid (by rw [IntWalk.i64_in _ (by omega)]; omega)
  have Hf2 : Hid (IntKind.i64.wrap ((f : Int) + 2) = (f2 : Int)) := Lib.hid (by rw [IntWalk.i64_in _ (by omega)]; omega)
  have HG : Hid ((f1 : Int).tmod 3 = (G : Int)) := Lib.hid (by rw [Int.tmod_eq_emod_of_nonneg (by omega)]; omega)
  have HH : Hid ((f2 : Int).tmod 3 = (H : Int)) := Lib.hid (by rw [Int.tmod_eq_emod_of_nonneg (by omega)]; omega)
  obtain ⟨S2, hS2⟩ : ∃ z9, p - s = z9 := ⟨_, rfl⟩
  have hS2b : 0 ≤ S2 ∧ S2 ≤ 5 := by omega
  have HS2 : Hid (IntKind.i64.wrap (p - s) = S2) := Lib.hid (by rw [hS2]; exact IntWalk.i64_in _ (by omega))
  obtain ⟨F1, hF1⟩ : ∃ z9, adF p s (facQ Q G) (facQ R G) = z9 := ⟨_, rfl⟩
  have HF1 := Lib.hid hF1
  have HF1b : Hid (Bytes 9 F1) := Lib.hid (by rw [← hF1]; exact adF_bytes s _ _ (by omega) (by omega))
  obtain ⟨Q1, hQ1⟩ : ∃ z9, over Q (G * 9) F1 = z9 := ⟨_, rfl⟩
  have HQ1 := Lib.hid hQ1
  have HQ1b : Hid (Bytes 27 Q1) := Lib.hid (by rw [← hQ1]; exact withQ_bytes HQ.out HF1b.out hG3)
  obtain ⟨F2, hF2⟩ : ∃ z9, adF p S2 (facQ R H) (facQ Q1 H) = z9 := ⟨_, rfl⟩
  have HF2 := Lib.hid hF2
  have HF2b : Hid (Bytes 9 F2) := Lib.hid (by rw [← hF2]; exact adF_bytes S2 _ _ (by omega) (by omega))
  obtain ⟨R1, hR1⟩ : ∃ z9, over R (H * 9) F2 = z9 := ⟨_, rfl⟩
  have HR1 := Lib.hid hR1
  have HR1b : Hid (Bytes 27 R1) := Lib.hid (by rw [← hR1]; exact withQ_bytes HRb.out HF2b.out hH3)
  have HL2b : Hid (∀ q ∈ (qs.set i Q1).set j R1, Bytes 27 q) := Lib.hid (set_bytes27 (set_bytes27 hR.good HQ1b.out) HR1b.out)
  obtain ⟨FL, hFL⟩ : ∃ z9, ((qs.set i Q1).set j R1).filter nzB = z9 := ⟨_, rfl⟩
  have HFl := Lib.hid hFL
  have HFL : Hid (flL p s qs i j f Q R = FL) := Lib.hid (by unfold flL flQ flR flQ withQ; rw [hG, hH, hF1, hQ1, hS2, hF2, hR1, hFL])
  obtain ⟨N7, hN7⟩ : ∃ N, FL.length = N := ⟨_, rfl⟩
  have HN7 := Lib.hid hN7
  clear hQ hRj hN7 hFL hR1 hF2 hQ1 hF1 hS2 hG hH hf1 hf2
  go_enter Try.func34, Try.ntmps34
  go_upto_region 0 with (fail)
  refine wp_region_lit ?_
  refine ls_op rfl (fun K' hK' => ?_)
  have lz1 := hB.size
  refine wp_new (some 3) rfl (exec_box 28 _ rfl (#[.int .i64 p, .int .i64 n, .int .i64 m, .int .i64 k, .slice (some ⟨b, off, none⟩) qs.length c]) rfl) (fun Wz2 nnz3 => ?_)
  have bz4 := nnz3.below (Below.refl _ _) (Nat.le_refl _)
  replace hB := below_after hB bz4
  have hz5 : At Wz2 w.heap.size (.cells #[.int .i64 p, .int .i64 n, .int .i64 m, .int .i64 k, .slice (some ⟨b, off, none⟩) qs.length c] 28 (0, 0)) := nnz3.at_
  refine hK' _ _ ?_
  clear hK' K' nnz3 bz4
  go_frame
  refine ls_op rfl (fun K' hK' => ?_)
  have lz6 := hB.size
  have lz7 := hz5.lt
  refine wp_new (some 4) rfl (exec_box 58 _ rfl (#[.int .i64 i, .int .i64 j, .int .i64 f]) rfl) (fun Wz8 nnz9 => ?_)
  have bz10 := nnz9.below (Below.refl _ _) (Nat.le_refl _)
  replace hB := below_after hB bz10
  replace hz5 := hz5.after bz10
  have hz11 : At Wz8 Wz2.heap.size (.cells #[.int .i64 i, .int .i64 j, .int .i64 f] 58 (0, 0)) := nnz9.at_
  refine hK' _ _ ?_
  clear hK' K' nnz9 bz10
  go_frame
  refine ls_op rfl (fun K' hK' => ?_)
  have lz12 := hB.size
  have lz13 := hz5.lt
  have lz14 := hz11.lt
  refine wp_new (some 6) rfl (al_impl_Scheme rfl) (fun Wz15 nnz16 => ?_)
  have bz17 := nnz16.below (Below.refl _ _) (Nat.le_refl _)
  replace hB := below_after hB bz17
  replace hz5 := hz5.after bz17
  replace hz11 := hz11.after bz17
  have hz18 : At Wz15 Wz8.heap.size (.cells #[.int .i64 0, .int .i64 0, .int .i64 0, .int .i64 0, .slice none 0 0] 28 (0, 0)) := nnz16.at_
  refine hK' _ _ ?_
  clear hK' K' nnz16 bz17
  go_frame
  refine wpList_nil ?_
  go_upto_region 1 with (fail)
  refine wp_region_y (zs := []) (S := fun w' => Below w.heap.size w w' ∧ At w' Wz2.heap.size (.cells #[.int .i64 i, .int .i64 j, .int .i64 f] 58 (0, 0))) (S2 := fun w' => True) (by kernel_rfl) ?_
  change wpAnyY _ _ _ _ _ _ _ _ _ _ (World.drew _)
  generalize hwdz19 : World.drew _ = wdz19
  replace hB : Below w.heap.size w wdz19 := by rw [← hwdz19]; exact hB.drew
  replace hz5 : At wdz19 w.heap.size (.cells #[.int .i64 p, .int .i64 n, .int .i64 m, .int .i64 k, .slice (some ⟨b, off, none⟩) qs.length c] 28 (0, 0)) := by rw [← hwdz19]; exact hz5
  replace hz11 : At wdz19 Wz2.heap.size (.cells #[.int .i64 i, .int .i64 j, .int .i64 f] 58 (0, 0)) := by rw [← hwdz19]; exact hz11
  replace hz18 : At wdz19 Wz8.heap.size (.cells #[.int .i64 0, .int .i64 0, .int .i64 0, .int .i64 0, .slice none 0 0] 28 (0, 0)) := by rw [← hwdz19]; exact hz18
  clear hwdz19
  refine y_yield 0 (some 12) (.pointer (some ⟨Wz2.heap.size, 2, none⟩)) rfl (by kernel_rfl) (by kernel_rfl) (by kernel_rfl) (fun _ _ _ h => h) rfl rfl ⟨hB, hz11⟩ (fun w' h' => exec_fieldAddr 58 _ 2 rfl _ (by kernel_rfl)) ?_
  go_frame
  refine y_yield 1 (some 13) (.int .i64 f) rfl (by kernel_rfl) (by kernel_rfl) (by kernel_rfl) (fun _ _ _ h => h) rfl rfl ⟨hB, hz11⟩ (fun w' h' => exec_load_one 2 _ rfl Wz2.heap.size 2 rfl (.int .i64 f) _ Try.underlying2 rfl (h'.2.at_ 2)) ?_
  go_frame
  refine y_yield 2 (some 14) (.int .i64 f1) rfl (by kernel_rfl) (by kernel_rfl) (by kernel_rfl) (fun _ _ _ h => h) rfl rfl ⟨hB, hz11⟩ (fun w' h' => exec_add _ _ _ _ rfl f 1 f1 rfl rfl Hf1.out) ?_
  go_frame
  refine y_yield 3 (some 15) (.int .i64 G) rfl (by kernel_rfl) (by kernel_rfl) (by kernel_rfl) (fun _ _ _ h => h) rfl rfl ⟨hB, hz11⟩ (fun w' h' => exec_rem _ _ _ _ rfl f1 3 G rfl rfl (by decide) HG.out) ?_
  go_frame
  refine y_yield 4 (some 16) (.pointer (some ⟨Wz2.heap.size, 2, none⟩)) rfl (by kernel_rfl) (by kernel_rfl) (by kernel_rfl) (fun _ _ _ h => h) rfl rfl ⟨hB, hz11⟩ (fun w' h' => exec_fieldAddr 58 _ 2 rfl _ (by kernel_rfl)) ?_
  go_frame
  refine y_yield 5 (some 17) (.int .i64 f) rfl (by kernel_rfl) (by kernel_rfl) (by kernel_rfl) (fun _ _ _ h => h) rfl rfl ⟨hB, hz11⟩ (fun w' h' => exec_load_one 2 _ rfl Wz2.heap.size 2 rfl (.int .i64 f) _ Try.underlying2 rfl (h'.2.at_ 2)) ?_
  go_frame
  refine y_yield 6 (some 18) (.int .i64 f2) rfl (by kernel_rfl) (by kernel_rfl) (by kernel_rfl) (fun _ _ _ h => h) rfl rfl ⟨hB, hz11⟩ (fun w' h' => exec_add _ _ _ _ rfl f 2 f2 rfl rfl Hf2.out) ?_
  go_frame
  refine y_yield 7 (some 19) (.int .i64 H) rfl (by kernel_rfl) (by kernel_rfl) (by kernel_rfl) (fun _ _ _ h => h) rfl rfl ⟨hB, hz11⟩ (fun w' h' => exec_rem _ _ _ _ rfl f2 3 H rfl rfl (by decide) HH.out) ?_
  go_frame
  refine y_oper 8 (by kernel_rfl) rfl rfl (fun K' hK' => ?_)
  refine wp_exec (some 7) rfl (.int .i64 G) (exec_assign _ rfl (.int .i64 G) rfl) ?_
  refine hK' _ _ ⟨hB, hz11⟩ (fun _ => trivial) ?_
  clear hK' K'
  go_frame
  refine y_oper 9 (by kernel_rfl) rfl rfl (fun K' hK' => ?_)
  refine wp_exec (some 8) rfl (.int .i64 H) (exec_assign _ rfl (.int .i64 H) rfl) ?_
  refine hK' _ _ ⟨hB, hz11⟩ (fun _ => trivial) ?_
  clear hK' K'
  go_frame
  refine y_done (by kernel_rfl) ?_ _
  go_upto_region 2 with (fail)
  go_cut [9, 10] from 20 to 33 (fun s9 s10 wx => ∃ b9 b10 : Nat, s9 = .pointer (some ⟨b9, 0, none⟩) ∧ s10 = .pointer (some ⟨b10, 0, none⟩) ∧ b9 ≠ b10 ∧ (w.heap.size < b9 ∧ w.heap.size < b10 ∧ Wz2.heap.size < b9 ∧ Wz2.heap.size < b10 ∧ Wz8.heap.size < b9 ∧ Wz8.heap.size < b10) ∧ Below w.heap.size w wx ∧ At wx w.heap.size (.cells #[.int .i64 p, .int .i64 n, .int .i64 m, .int .i64 k, .slice (some ⟨b, off, none⟩) qs.length c] 28 (0, 0)) ∧ At wx Wz2.heap.size (.cells #[.int .i64 i, .int .i64 j, .int .i64 f] 58 (0, 0)) ∧ At wx Wz8.heap.size (.cells #[.int .i64 0, .int .i64 0, .int .i64 0, .int .i64 0, .slice none 0 0] 28 (0, 0)) ∧ At wx b9 (.cells (u8s (Q)) 62 (0, 0)) ∧ At wx b10 (.cells (u8s (R)) 62 (0, 0)))
  case first =>
    refine wp_region_y (zs := []) (S := fun w' => Below w.heap.size w w' ∧ At w' w.heap.size (.cells #[.int .i64 p, .int .i64 n, .int .i64 m, .int .i64 k, .slice (some ⟨b, off, none⟩) qs.length c] 28 (0, 0)) ∧ At w' Wz2.heap.size (.cells #[.int .i64 i, .int .i64 j, .int .i64 f] 58 (0, 0))) (S2 := fun w' => True) (by kernel_rfl) ?_
    change wpAnyY _ _ _ _ _ _ _ _ _ _ (World.drew _)
    generalize hwdz20 : World.drew _ = wdz20
    replace hB : Below w.heap.size w wdz20 := by rw [← hwdz20]; exact hB.drew
    replace hz5 : At wdz20 w.heap.size (.cells #[.int .i64 p, .int .i64 n, .int .i64 m, .int .i64 k, .slice (some ⟨b, off, none⟩) qs.length c] 28 (0, 0)) := by rw [← hwdz20]; exact hz5
    replace hz11 : At wdz20 Wz2.heap.size (.cells #[.int .i64 i, .int .i64 j, .int .i64 f] 58 (0, 0)) := by rw [← hwdz20]; exact hz11
    replace hz18 : At wdz20 Wz8.heap.size (.cells #[.int .i64 0, .int .i64 0, .int .i64 0, .int .i64 0, .slice none 0 0] 28 (0, 0)) := by rw [← hwdz20]; exact hz18
    clear hwdz20
    refine y_yield 0 (some 20) (.pointer (some ⟨w.heap.size, 4, none⟩)) rfl (by kernel_rfl) (by kernel_rfl) (by kernel_rfl) (fun _ _ _ h => h) rfl rfl ⟨hB, hz5, hz11⟩ (fun w' h' => exec_fieldAddr 28 _ 4 rfl _ (by kernel_rfl)) ?_
    go_frame
    refine y_yield 1 (some 21) (.slice (some ⟨b, off, none⟩) qs.length c) rfl (by kernel_rfl) (by kernel_rfl) (by kernel_rfl) (fun _ _ _ h => h) rfl rfl ⟨hB, hz5, hz11⟩ (fun w' h' => exec_load_one 26 _ rfl w.heap.size 4 rfl (.slice (some ⟨b, off, none⟩) qs.length c) _ Try.underlying26 rfl (h'.2.1.at_ 4)) ?_
    go_frame
    refine y_yield 2 (some 22) (.pointer (some ⟨Wz2.heap.size, 0, none⟩)) rfl (by kernel_rfl) (by kernel_rfl) (by kernel_rfl) (fun _ _ _ h => h) rfl rfl ⟨hB, hz5, hz11⟩ (fun w' h' => exec_fieldAddr 58 _ 0 rfl _ (by kernel_rfl)) ?_
    go_frame
    refine y_yield 3 (some 23) (.int .i64 i) rfl (by kernel_rfl) (by kernel_rfl) (by kernel_rfl) (fun _ _ _ h => h) rfl rfl ⟨hB, hz5, hz11⟩ (fun w' h' => exec_load_one 2 _ rfl Wz2.heap.size 0 rfl (.int .i64 i) _ Try.underlying2 rfl (h'.2.2.at_ 0)) ?_
    go_frame
    refine y_yield 4 (some 24) (.pointer (some ⟨b, off + i * 27, none⟩)) rfl (by kernel_rfl) (by kernel_rfl) (by kernel_rfl) (fun _ _ _ h => h) rfl rfl ⟨hB, hz5, hz11⟩ (fun w' h' => exec_index_slice _ 52 _ _ rfl b off qs.length c i 27 rfl rfl Try.underlying26 (by kernel_rfl) (by omega)) ?_
    go_frame
    refine y_yield 5 (some 25) (.agg (u8s (Q))) rfl (by kernel_rfl) (by kernel_rfl) (by kernel_rfl) (fun _ _ _ h => h) rfl rfl ⟨hB, hz5, hz11⟩ (fun w' h' => exec_load_cells 52 _ rfl b (off + i * 27) rfl (Q) _ 27 (Rd.cFl (hR.keep h'.1) HQi.out) Try.underlying52 rfl (by kernel_rfl) (HQ.out.len)) ?_
    go_frame
    refine y_yield 7 (some 27) (.pointer (some ⟨w.heap.size, 4, none⟩)) rfl (by kernel_rfl) (by kernel_rfl) (by kernel_rfl) (fun _ _ _ h => h) rfl rfl ⟨hB, hz5, hz11⟩ (fun w' h' => exec_fieldAddr 28 _ 4 rfl _ (by kernel_rfl)) ?_
    go_frame
    refine y_yield 8 (some 28) (.slice (some ⟨b, off, none⟩) qs.length c) rfl (by kernel_rfl) (by kernel_rfl) (by kernel_rfl) (fun _ _ _ h => h) rfl rfl ⟨hB, hz5, hz11⟩ (fun w' h' => exec_load_one 26 _ rfl w.heap.size 4 rfl (.slice (some ⟨b, off, none⟩) qs.length c) _ Try.underlying26 rfl (h'.2.1.at_ 4)) ?_
    go_frame
    refine y_yield 9 (some 29) (.pointer (some ⟨Wz2.heap.size, 1, none⟩)) rfl (by kernel_rfl) (by kernel_rfl) (by kernel_rfl) (fun _ _ _ h => h) rfl rfl ⟨hB, hz5, hz11⟩ (fun w' h' => exec_fieldAddr 58 _ 1 rfl _ (by kernel_rfl)) ?_
    go_frame
    refine y_yield 10 (some 30) (.int .i64 j) rfl (by kernel_rfl) (by kernel_rfl) (by kernel_rfl) (fun _ _ _ h => h) rfl rfl ⟨hB, hz5, hz11⟩ (fun w' h' => exec_load_one 2 _ rfl Wz2.heap.size 1 rfl (.int .i64 j) _ Try.underlying2 rfl (h'.2.2.at_ 1)) ?_
    go_frame
    refine y_yield 11 (some 31) (.pointer (some ⟨b, off + j * 27, none⟩)) rfl (by kernel_rfl) (by kernel_rfl) (by kernel_rfl) (fun _ _ _ h => h) rfl rfl ⟨hB, hz5, hz11⟩ (fun w' h' => exec_index_slice _ 52 _ _ rfl b off qs.length c j 27 rfl rfl Try.underlying26 (by kernel_rfl) (by omega)) ?_
    go_frame
    refine y_yield 12 (some 32) (.agg (u8s (R))) rfl (by kernel_rfl) (by kernel_rfl) (by kernel_rfl) (fun _ _ _ h => h) rfl rfl ⟨hB, hz5, hz11⟩ (fun w' h' => exec_load_cells 52 _ rfl b (off + j * 27) rfl (R) _ 27 (Rd.cFl (hR.keep h'.1) HRj.out) Try.underlying52 rfl (by kernel_rfl) (HRb.out.len)) ?_
    go_frame
    refine y_three 6 14 15 (by kernel_rfl) rfl rfl rfl rfl rfl rfl (fun K' hK' => ?_) (fun K' hK' => ?_) (fun K' hK' => ?_)
    · have lz23 := hB.size
      have lz24 := hz5.lt
      have lz25 := hz11.lt
      have lz26 := hz18.lt
      refine wp_call1 (some 26) rfl 64 _ _ rfl (fun args w => by kernel_rfl) _ rfl _ (factorsOf_c Q HQ.out _) (fun e Wz21 h => ?_)
      obtain ⟨rfl, bz22⟩ := h
      replace hB := below_after hB bz22
      replace hz5 := hz5.after bz22
      replace hz11 := hz11.after bz22
      replace hz18 := hz18.after bz22
      clear bz22
      refine ⟨_, rfl, ?_⟩
      refine hK' _ _ ⟨hB, hz5, hz11⟩ (fun _ => trivial) ?_
      clear hK' K'
      go_frame
      refine y_three 13 14 15 (by kernel_rfl) rfl rfl rfl rfl rfl rfl (fun K' hK' => ?_) (fun K' hK' => ?_) (fun K' hK' => ?_)
      · have lz29 := hB.size
        have lz30 := hz5.lt
        have lz31 := hz11.lt
        have lz32 := hz18.lt
        refine wp_call1 (some 33) rfl 64 _ _ rfl (fun args w => by kernel_rfl) _ rfl _ (factorsOf_c R HRb.out _) (fun e Wz27 h => ?_)
        obtain ⟨rfl, bz28⟩ := h
        replace hB := below_after hB bz28
        replace hz5 := hz5.after bz28
        replace hz11 := hz11.after bz28
        replace hz18 := hz18.after bz28
        clear bz28
        refine ⟨_, rfl, ?_⟩
        refine hK' _ _ ⟨hB, hz5, hz11⟩ (fun _ => trivial) ?_
        clear hK' K'
        go_frame
        refine y_two 14 15 (by kernel_rfl) rfl rfl rfl rfl (fun K' hK' => ?_) (fun K' hK' => ?_)
        · have lz33 := hB.size
          have lz34 := hz5.lt
          have lz35 := hz11.lt
          have lz36 := hz18.lt
          refine wp_new (some 9) rfl (al__3_impl_Form rfl) (fun Wz37 nnz38 => ?_)
          have bz39 := nnz38.below (Below.refl _ _) (Nat.le_refl _)
          replace hB := below_after hB bz39
          replace hz5 := hz5.after bz39
          replace hz11 := hz11.after bz39
          replace hz18 := hz18.after bz39
          have hz40 : At Wz37 Wz27.heap.size (.cells (u8s (List.replicate 27 0)) 62 (0, 0)) := nnz38.at_
          refine hK' _ _ ⟨hB, hz5, hz11⟩ (fun _ => trivial) ?_
          clear hK' K' nnz38 bz39
          go_frame
          refine y_oper 15 (by kernel_rfl) rfl rfl (fun K' hK' => ?_)
          have lz41 := hB.size
          have lz42 := hz5.lt
          have lz43 := hz11.lt
          have lz44 := hz18.lt
          have lz45 := hz40.lt
          refine wp_new (some 10) rfl (al__3_impl_Form rfl) (fun Wz46 nnz47 => ?_)
          have bz48 := nnz47.below (Below.refl _ _) (Nat.le_refl _)
          replace hB := below_after hB bz48
          replace hz5 := hz5.after bz48
          replace hz11 := hz11.after bz48
          replace hz18 := hz18.after bz48
          replace hz40 := hz40.after bz48
          have hz49 : At Wz46 Wz37.heap.size (.cells (u8s (List.replicate 27 0)) 62 (0, 0)) := nnz47.at_
          refine hK' _ _ ⟨hB, hz5, hz11⟩ (fun _ => trivial) ?_
          clear hK' K' nnz47 bz48
          go_frame
          refine y_oper 16 (by kernel_rfl) rfl rfl (fun K' hK' => ?_)
          refine wp_store_bytes 62 _ _ rfl rfl Wz27.heap.size rfl (Q) rfl _ _ hz40 27 (by kernel_rfl) HQ.out.len (by simp) (fun Wz50 pz51 => ?_)
          replace hB := pz51.below hB (by omega)
          replace hz5 := pz51.other hz5 (by omega)
          replace hz11 := pz51.other hz11 (by omega)
          replace hz18 := pz51.other hz18 (by omega)
          replace hz49 := pz51.other hz49 (by omega)
          replace hz40 : At Wz50 Wz27.heap.size (.cells (u8s (Q)) 62 (0, 0)) := pz51.at_
          refine hK' _ _ ⟨hB, hz5, hz11⟩ (fun _ => trivial) ?_
          clear hK' K' pz51
          refine y_oper 17 (by kernel_rfl) rfl rfl (fun K' hK' => ?_)
          refine wp_store_bytes 62 _ _ rfl rfl Wz37.heap.size rfl (R) rfl _ _ hz49 27 (by kernel_rfl) HRb.out.len (by simp) (fun Wz52 pz53 => ?_)
          replace hB := pz53.below hB (by omega)
          replace hz5 := pz53.other hz5 (by omega)
          replace hz11 := pz53.other hz11 (by omega)
          replace hz18 := pz53.other hz18 (by omega)
          replace hz40 := pz53.other hz40 (by omega)
          replace hz49 : At Wz52 Wz37.heap.size (.cells (u8s (R)) 62 (0, 0)) := pz53.at_
          refine hK' _ _ ⟨hB, hz5, hz11⟩ (fun _ => trivial) ?_
          clear hK' K' pz53
          refine y_done (by kernel_rfl) ?_ _
          go_wp2_with fail
          go_meet
          exact ⟨_, _, rfl, rfl, by omega, ⟨by omega, by omega, by omega, by omega, by omega, by omega⟩, hB, hz5, hz11, hz18, hz40, hz49⟩
        · have lz54 := hB.size
          have lz55 := hz5.lt
          have lz56 := hz11.lt
          have lz57 := hz18.lt
          refine wp_new (some 10) rfl (al__3_impl_Form rfl) (fun Wz58 nnz59 => ?_)
          have bz60 := nnz59.below (Below.refl _ _) (Nat.le_refl _)
          replace hB := below_after hB bz60
          replace hz5 := hz5.after bz60
          replace hz11 := hz11.after bz60
          replace hz18 := hz18.after bz60
          have hz61 : At Wz58 Wz27.heap.size (.cells (u8s (List.replicate 27 0)) 62 (0, 0)) := nnz59.at_
          refine hK' _ _ ⟨hB, hz5, hz11⟩ (fun _ => trivial) ?_
          clear hK' K' nnz59 bz60
          go_frame
          refine y_oper 14 (by kernel_rfl) rfl rfl (fun K' hK' => ?_)
          have lz62 := hB.size
          have lz63 := hz5.lt
          have lz64 := hz11.lt
          have lz65 := hz18.lt
          have lz66 := hz61.lt
          refine wp_new (some 9) rfl (al__3_impl_Form rfl) (fun Wz67 nnz68 => ?_)
          have bz69 := nnz68.below (Below.refl _ _) (Nat.le_refl _)
          replace hB := below_after hB bz69
          replace hz5 := hz5.after bz69
          replace hz11 := hz11.after bz69
          replace hz18 := hz18.after bz69
          replace hz61 := hz61.after bz69
          have hz70 : At Wz67 Wz58.heap.size (.cells (u8s (List.replicate 27 0)) 62 (0, 0)) := nnz68.at_
          refine hK' _ _ ⟨hB, hz5, hz11⟩ (fun _ => trivial) ?_
          clear hK' K' nnz68 bz69
          go_frame
          refine y_oper 16 (by kernel_rfl) rfl rfl (fun K' hK' => ?_)
          refine wp_store_bytes 62 _ _ rfl rfl Wz58.heap.size rfl (Q) rfl _ _ hz70 27 (by kernel_rfl) HQ.out.len (by simp) (fun Wz71 pz72 => ?_)
          replace hB := pz72.below hB (by omega)
          replace hz5 := pz72.other hz5 (by omega)
          replace hz11 := pz72.other hz11 (by omega)
          replace hz18 := pz72.other hz18 (by omega)
          replace hz61 := pz72.other hz61 (by omega)
          replace hz70 : At Wz71 Wz58.heap.size (.cells (u8s (Q)) 62 (0, 0)) := pz72.at_
          refine hK' _ _ ⟨hB, hz5, hz11⟩ (fun _ => trivial) ?_
          clear hK' K' pz72
          refine y_oper 17 (by kernel_rfl) rfl rfl (fun K' hK' => ?_)
          refine wp_store_bytes 62 _ _ rfl rfl Wz27.heap.size rfl (R) rfl _ _ hz61 27 (by kernel_rfl) HRb.out.len (by simp) (fun Wz73 pz74 => ?_)
          replace hB := pz74.below hB (by omega)
          replace hz5 := pz74.other hz5 (by omega)
          replace hz11 := pz74.other hz11 (by omega)
          replace hz18 := pz74.other hz18 (by omega)
          replace hz70 := pz74.other hz70 (by omega)
          replace hz61 : At Wz73 Wz27.heap.size (.cells (u8s (R)) 62 (0, 0)) := pz74.at_
          refine hK' _ _ ⟨hB, hz5, hz11⟩ (fun _ => trivial) ?_
          clear hK' K' pz74
          refine y_done (by kernel_rfl) ?_ _
          go_wp2_with fail
          go_meet
          exact ⟨_, _, rfl, rfl, by omega, ⟨by omega, by omega, by omega, by omega, by omega, by omega⟩, hB, hz5, hz11, hz18, hz70, hz61⟩
      · have lz75 := hB.size
        have lz76 := hz5.lt
        have lz77 := hz11.lt
        have lz78 := hz18.lt
        refine wp_new (some 9) rfl (al__3_impl_Form rfl) (fun Wz79 nnz80 => ?_)
        have bz81 := nnz80.below (Below.refl _ _) (Nat.le_refl _)
        replace hB := below_after hB bz81
        replace hz5 := hz5.after bz81
        replace hz11 := hz11.after bz81
        replace hz18 := hz18.after bz81
        have hz82 : At Wz79 Wz21.heap.size (.cells (u8s (List.replicate 27 0)) 62 (0, 0)) := nnz80.at_
        refine hK' _ _ ⟨hB, hz5, hz11⟩ (fun _ => trivial) ?_
        clear hK' K' nnz80 bz81
        go_frame
        refine y_two 13 15 (by kernel_rfl) rfl rfl rfl rfl (fun K' hK' => ?_) (fun K' hK' => ?_)
        · have lz85 := hB.size
          have lz86 := hz5.lt
          have lz87 := hz11.lt
          have lz88 := hz18.lt
          have lz89 := hz82.lt
          refine wp_call1 (some 33) rfl 64 _ _ rfl (fun args w => by kernel_rfl) _ rfl _ (factorsOf_c R HRb.out _) (fun e Wz83 h => ?_)
          obtain ⟨rfl, bz84⟩ := h
          replace hB := below_after hB bz84
          replace hz5 := hz5.after bz84
          replace hz11 := hz11.after bz84
          replace hz18 := hz18.after bz84
          replace hz82 := hz82.after bz84
          clear bz84
          refine ⟨_, rfl, ?_⟩
          refine hK' _ _ ⟨hB, hz5, hz11⟩ (fun _ => trivial) ?_
          clear hK' K'
          go_frame
          refine y_oper 15 (by kernel_rfl) rfl rfl (fun K' hK' => ?_)
          have lz90 := hB.size
          have lz91 := hz5.lt
          have lz92 := hz11.lt
          have lz93 := hz18.lt
          have lz94 := hz82.lt
          refine wp_new (some 10) rfl (al__3_impl_Form rfl) (fun Wz95 nnz96 => ?_)
          have bz97 := nnz96.below (Below.refl _ _) (Nat.le_refl _)
          replace hB := below_after hB bz97
          replace hz5 := hz5.after bz97
          replace hz11 := hz11.after bz97
          replace hz18 := hz18.after bz97
          replace hz82 := hz82.after bz97
          have hz98 : At Wz95 Wz83.heap.size (.cells (u8s (List.replicate 27 0)) 62 (0, 0)) := nnz96.at_
          refine hK' _ _ ⟨hB, hz5, hz11⟩ (fun _ => trivial) ?_
          clear hK' K' nnz96 bz97
          go_frame
          refine y_oper 16 (by kernel_rfl) rfl rfl (fun K' hK' => ?_)
          refine wp_store_bytes 62 _ _ rfl rfl Wz21.heap.size rfl (Q) rfl _ _ hz82 27 (by kernel_rfl) HQ.out.len (by simp) (fun Wz99 pz100 => ?_)
          replace hB := pz100.below hB (by omega)
          replace hz5 := pz100.other hz5 (by omega)
          replace hz11 := pz100.other hz11 (by omega)
          replace hz18 := pz100.other hz18 (by omega)
          replace hz98 := pz100.other hz98 (by omega)
          replace hz82 : At Wz99 Wz21.heap.size (.cells (u8s (Q)) 62 (0, 0)) := pz100.at_
          refine hK' _ _ ⟨hB, hz5, hz11⟩ (fun _ => trivial) ?_
          clear hK' K' pz100
          refine y_oper 17 (by kernel_rfl) rfl rfl (fun K' hK' => ?_)
          refine wp_store_bytes 62 _ _ rfl rfl Wz83.heap.size rfl (R) rfl _ _ hz98 27 (by kernel_rfl) HRb.out.len (by simp) (fun Wz101 pz102 => ?_)
          replace hB := pz102.below hB (by omega)
          replace hz5 := pz102.other hz5 (by omega)
          replace hz11 := pz102.other hz11 (by omega)
          replace hz18 := pz102.other hz18 (by omega)
          replace hz82 := pz102.other hz82 (by omega)
          replace hz98 : At Wz101 Wz83.heap.size (.cells (u8s (R)) 62 (0, 0)) := pz102.at_
          refine hK' _ _ ⟨hB, hz5, hz11⟩ (fun _ => trivial) ?_
          clear hK' K' pz102
          refine y_done (by kernel_rfl) ?_ _
          go_wp2_with fail
          go_meet
          exact ⟨_, _, rfl, rfl, by omega, ⟨by omega, by omega, by omega, by omega, by omega, by omega⟩, hB, hz5, hz11, hz18, hz82, hz98⟩
        · have lz103 := hB.size
          have lz104 := hz5.lt
          have lz105 := hz11.lt
          have lz106 := hz18.lt
          have lz107 := hz82.lt
          refine wp_new (some 10) rfl (al__3_impl_Form rfl) (fun Wz108 nnz109 => ?_)
          have bz110 := nnz109.below (Below.refl _ _) (Nat.le_refl _)
          replace hB := below_after hB bz110
          replace hz5 := hz5.after bz110
          replace hz11 := hz11.after bz110
          replace hz18 := hz18.after bz110
          replace hz82 := hz82.after bz110
          have hz111 : At Wz108 Wz79.heap.size (.cells (u8s (List.replicate 27 0)) 62 (0, 0)) := nnz109.at_
          refine hK' _ _ ⟨hB, hz5, hz11⟩ (fun _ => trivial) ?_
          clear hK' K' nnz109 bz110
          go_frame
          refine y_oper 13 (by kernel_rfl) rfl rfl (fun K' hK' => ?_)
          have lz114 := hB.size
          have lz115 := hz5.lt
          have lz116 := hz11.lt
          have lz117 := hz18.lt
          have lz118 := hz82.lt
          have lz119 := hz111.lt
          refine wp_call1 (some 33) rfl 64 _ _ rfl (fun args w => by kernel_rfl) _ rfl _ (factorsOf_c R HRb.out _) (fun e Wz112 h => ?_)
          obtain ⟨rfl, bz113⟩ := h
          replace hB := below_after hB bz113
          replace hz5 := hz5.after bz113
          replace hz11 := hz11.after bz113
          replace hz18 := hz18.after bz113
          replace hz82 := hz82.after bz113
          replace hz111 := hz111.after bz113
          clear bz113
          refine ⟨_, rfl, ?_⟩
          refine hK' _ _ ⟨hB, hz5, hz11⟩ (fun _ => trivial) ?_
          clear hK' K'
          go_frame
          refine y_oper 16 (by kernel_rfl) rfl rfl (fun K' hK' => ?_)
          refine wp_store_bytes 62 _ _ rfl rfl Wz21.heap.size rfl (Q) rfl _ _ hz82 27 (by kernel_rfl) HQ.out.len (by simp) (fun Wz120 pz121 => ?_)
          replace hB := pz121.below hB (by omega)
          replace hz5 := pz121.other hz5 (by omega)
          replace hz11 := pz121.other hz11 (by omega)
          replace hz18 := pz121.other hz18 (by omega)
          replace hz111 := pz121.other hz111 (by omega)
          replace hz82 : At Wz120 Wz21.heap.size (.cells (u8s (Q)) 62 (0, 0)) := pz121.at_
          refine hK' _ _ ⟨hB, hz5, hz11⟩ (fun _ => trivial) ?_
          clear hK' K' pz121
          refine y_oper 17 (by kernel_rfl) rfl rfl (fun K' hK' => ?_)
          refine wp_store_bytes 62 _ _ rfl rfl Wz79.heap.size rfl (R) rfl _ _ hz111 27 (by kernel_rfl) HRb.out.len (by simp) (fun Wz122 pz123 => ?_)
          replace hB := pz123.below hB (by omega)
          replace hz5 := pz123.other hz5 (by omega)
          replace hz11 := pz123.other hz11 (by omega)
          replace hz18 := pz123.other hz18 (by omega)
          replace hz82 := pz123.other hz82 (by omega)
          replace hz111 : At Wz122 Wz79.heap.size (.cells (u8s (R)) 62 (0, 0)) := pz123.at_
          refine hK' _ _ ⟨hB, hz5, hz11⟩ (fun _ => trivial) ?_
          clear hK' K' pz123
          refine y_done (by kernel_rfl) ?_ _
          go_wp2_with fail
          go_meet
          exact ⟨_, _, rfl, rfl, by omega, ⟨by omega, by omega, by omega, by omega, by omega, by omega⟩, hB, hz5, hz11, hz18, hz82, hz111⟩
      · have lz124 := hB.size
        have lz125 := hz5.lt
        have lz126 := hz11.lt
        have lz127 := hz18.lt
        refine wp_new (some 10) rfl (al__3_impl_Form rfl) (fun Wz128 nnz129 => ?_)
        have bz130 := nnz129.below (Below.refl _ _) (Nat.le_refl _)
        replace hB := below_after hB bz130
        replace hz5 := hz5.after bz130
        replace hz11 := hz11.after bz130
        replace hz18 := hz18.after bz130
        have hz131 : At Wz128 Wz21.heap.size (.cells (u8s (List.replicate 27 0)) 62 (0, 0)) := nnz129.at_
        refine hK' _ _ ⟨hB, hz5, hz11⟩ (fun _ => trivial) ?_
        clear hK' K' nnz129 bz130
        go_frame
        refine y_two 13 14 (by kernel_rfl) rfl rfl rfl rfl (fun K' hK' => ?_) (fun K' hK' => ?_)
        · have lz134 := hB.size
          have lz135 := hz5.lt
          have lz136 := hz11.lt
          have lz137 := hz18.lt
          have lz138 := hz131.lt
          refine wp_call1 (some 33) rfl 64 _ _ rfl (fun args w => by kernel_rfl) _ rfl _ (factorsOf_c R HRb.out _) (fun e Wz132 h => ?_)
          obtain ⟨rfl, bz133⟩ := h
          replace hB := below_after hB bz133
          replace hz5 := hz5.after bz133
          replace hz11 := hz11.after bz133
          replace hz18 := hz18.after bz133
          replace hz131 := hz131.after bz133
          clear bz133
          refine ⟨_, rfl, ?_⟩
          refine hK' _ _ ⟨hB, hz5, hz11⟩ (fun _ => trivial) ?_
          clear hK' K'
          go_frame
          refine y_oper 14 (by kernel_rfl) rfl rfl (fun K' hK' => ?_)
          have lz139 := hB.size
          have lz140 := hz5.lt
          have lz141 := hz11.lt
          have lz142 := hz18.lt
          have lz143 := hz131.lt
          refine wp_new (some 9) rfl (al__3_impl_Form rfl) (fun Wz144 nnz145 => ?_)
          have bz146 := nnz145.below (Below.refl _ _) (Nat.le_refl _)
          replace hB := below_after hB bz146
          replace hz5 := hz5.after bz146
          replace hz11 := hz11.after bz146
          replace hz18 := hz18.after bz146
          replace hz131 := hz131.after bz146
          have hz147 : At Wz144 Wz132.heap.size (.cells (u8s (List.replicate 27 0)) 62 (0, 0)) := nnz145.at_
          refine hK' _ _ ⟨hB, hz5, hz11⟩ (fun _ => trivial) ?_
          clear hK' K' nnz145 bz146
          go_frame
          refine y_oper 16 (by kernel_rfl) rfl rfl (fun K' hK' => ?_)
          refine wp_store_bytes 62 _ _ rfl rfl Wz132.heap.size rfl (Q) rfl _ _ hz147 27 (by kernel_rfl) HQ.out.len (by simp) (fun Wz148 pz149 => ?_)
          replace hB := pz149.below hB (by omega)
          replace hz5 := pz149.other hz5 (by omega)
          replace hz11 := pz149.other hz11 (by omega)
          replace hz18 := pz149.other hz18 (by omega)
          replace hz131 := pz149.other hz131 (by omega)
          replace hz147 : At Wz148 Wz132.heap.size (.cells (u8s (Q)) 62 (0, 0)) := pz149.at_
          refine hK' _ _ ⟨hB, hz5, hz11⟩ (fun _ => trivial) ?_
          clear hK' K' pz149
          refine y_oper 17 (by kernel_rfl) rfl rfl (fun K' hK' => ?_)
          refine wp_store_bytes 62 _ _ rfl rfl Wz21.heap.size rfl (R) rfl _ _ hz131 27 (by kernel_rfl) HRb.out.len (by simp) (fun Wz150 pz151 => ?_)
          replace hB := pz151.below hB (by omega)
          replace hz5 := pz151.other hz5 (by omega)
          replace hz11 := pz151.other hz11 (by omega)
          replace hz18 := pz151.other hz18 (by omega)
          replace hz147 := pz151.other hz147 (by omega)
          replace hz131 : At Wz150 Wz21.heap.size (.cells (u8s (R)) 62 (0, 0)) := pz151.at_
          refine hK' _ _ ⟨hB, hz5, hz11⟩ (fun _ => trivial) ?_
          clear hK' K' pz151
          refine y_done (by kernel_rfl) ?_ _
          go_wp2_with fail
          go_meet
          exact ⟨_, _, rfl, rfl, by omega, ⟨by omega, by omega, by omega, by omega, by omega, by omega⟩, hB, hz5, hz11, hz18, hz147, hz131⟩
        · have lz152 := hB.size
          have lz153 := hz5.lt
          have lz154 := hz11.lt
          have lz155 := hz18.lt
          have lz156 := hz131.lt
          refine wp_new (some 9) rfl (al__3_impl_Form rfl) (fun Wz157 nnz158 => ?_)
          have bz159 := nnz158.below (Below.refl _ _) (Nat.le_refl _)
          replace hB := below_after hB bz159
          replace hz5 := hz5.after bz159
          replace hz11 := hz11.after bz159
          replace hz18 := hz18.after bz159
          replace hz131 := hz131.after bz159
          have hz160 : At Wz157 Wz128.heap.size (.cells (u8s (List.replicate 27 0)) 62 (0, 0)) := nnz158.at_
          refine hK' _ _ ⟨hB, hz5, hz11⟩ (fun _ => trivial) ?_
          clear hK' K' nnz158 bz159
          go_frame
          refine y_oper 13 (by kernel_rfl) rfl rfl (fun K' hK' => ?_)
          have lz163 := hB.size
          have lz164 := hz5.lt
          have lz165 := hz11.lt
          have lz166 := hz18.lt
          have lz167 := hz131.lt
          have lz168 := hz160.lt
          refine wp_call1 (some 33) rfl 64 _ _ rfl (fun args w => by kernel_rfl) _ rfl _ (factorsOf_c R HRb.out _) (fun e Wz161 h => ?_)
          obtain ⟨rfl, bz162⟩ := h
          replace hB := below_after hB bz162
          replace hz5 := hz5.after bz162
          replace hz11 := hz11.after bz162
          replace hz18 := hz18.after bz162
          replace hz131 := hz131.after bz162
          replace hz160 := hz160.after bz162
          clear bz162
          refine ⟨_, rfl, ?_⟩
          refine hK' _ _ ⟨hB, hz5, hz11⟩ (fun _ => trivial) ?_
          clear hK' K'
          go_frame
          refine y_oper 16 (by kernel_rfl) rfl rfl (fun K' hK' => ?_)
          refine wp_store_bytes 62 _ _ rfl rfl Wz128.heap.size rfl (Q) rfl _ _ hz160 27 (by kernel_rfl) HQ.out.len (by simp) (fun Wz169 pz170 => ?_)
          replace hB := pz170.below hB (by omega)
          replace hz5 := pz170.other hz5 (by omega)
          replace hz11 := pz170.other hz11 (by omega)
          replace hz18 := pz170.other hz18 (by omega)
          replace hz131 := pz170.other hz131 (by omega)
          replace hz160 : At Wz169 Wz128.heap.size (.cells (u8s (Q)) 62 (0, 0)) := pz170.at_
          refine hK' _ _ ⟨hB, hz5, hz11⟩ (fun _ => trivial) ?_
          clear hK' K' pz170
          refine y_oper 17 (by kernel_rfl) rfl rfl (fun K' hK' => ?_)
          refine wp_store_bytes 62 _ _ rfl rfl Wz21.heap.size rfl (R) rfl _ _ hz131 27 (by kernel_rfl) HRb.out.len (by simp) (fun Wz171 pz172 => ?_)
          replace hB := pz172.below hB (by omega)
          replace hz5 := pz172.other hz5 (by omega)
          replace hz11 := pz172.other hz11 (by omega)
          replace hz18 := pz172.other hz18 (by omega)
          replace hz160 := pz172.other hz160 (by omega)
          replace hz131 : At Wz171 Wz21.heap.size (.cells (u8s (R)) 62 (0, 0)) := pz172.at_
          refine hK' _ _ ⟨hB, hz5, hz11⟩ (fun _ => trivial) ?_
          clear hK' K' pz172
          refine y_done (by kernel_rfl) ?_ _
          go_wp2_with fail
          go_meet
          exact ⟨_, _, rfl, rfl, by omega, ⟨by omega, by omega, by omega, by omega, by omega, by omega⟩, hB, hz5, hz11, hz18, hz160, hz131⟩
    · have lz173 := hB.size
      have lz174 := hz5.lt
      have lz175 := hz11.lt
      have lz176 := hz18.lt
      refine wp_new (some 9) rfl (al__3_impl_Form rfl) (fun Wz177 nnz178 => ?_)
      have bz179 := nnz178.below (Below.refl _ _) (Nat.le_refl _)
      replace hB := below_after hB bz179
      replace hz5 := hz5.after bz179
      replace hz11 := hz11.after bz179
      replace hz18 := hz18.after bz179
      have hz180 : At Wz177 wdz20.heap.size (.cells (u8s (List.replicate 27 0)) 62 (0, 0)) := nnz178.at_
      refine hK' _ _ ⟨hB, hz5, hz11⟩ (fun _ => trivial) ?_
      clear hK' K' nnz178 bz179
      go_frame
      refine y_two 6 15 (by kernel_rfl) rfl rfl rfl rfl (fun K' hK' => ?_) (fun K' hK' => ?_)
      · have lz183 := hB.size
        have lz184 := hz5.lt
        have lz185 := hz11.lt
        have lz186 := hz18.lt
        have lz187 := hz180.lt
        refine wp_call1 (some 26) rfl 64 _ _ rfl (fun args w => by kernel_rfl) _ rfl _ (factorsOf_c Q HQ.out _) (fun e Wz181 h => ?_)
        obtain ⟨rfl, bz182⟩ := h
        replace hB := below_after hB bz182
        replace hz5 := hz5.after bz182
        replace hz11 := hz11.after bz182
        replace hz18 := hz18.after bz182
        replace hz180 := hz180.after bz182
        clear bz182
        refine ⟨_, rfl, ?_⟩
        refine hK' _ _ ⟨hB, hz5, hz11⟩ (fun _ => trivial) ?_
        clear hK' K'
        go_frame
        refine y_two 13 15 (by kernel_rfl) rfl rfl rfl rfl (fun K' hK' => ?_) (fun K' hK' => ?_)
        · have lz190 := hB.size
          have lz191 := hz5.lt
          have lz192 := hz11.lt
          have lz193 := hz18.lt
          have lz194 := hz180.lt
          refine wp_call1 (some 33) rfl 64 _ _ rfl (fun args w => by kernel_rfl) _ rfl _ (factorsOf_c R HRb.out _) (fun e Wz188 h => ?_)
          obtain ⟨rfl, bz189⟩ := h
          replace hB := below_after hB bz189
          replace hz5 := hz5.after bz189
          replace hz11 := hz11.after bz189
          replace hz18 := hz18.after bz189
          replace hz180 := hz180.after bz189
          clear bz189
          refine ⟨_, rfl, ?_⟩
          refine hK' _ _ ⟨hB, hz5, hz11⟩ (fun _ => trivial) ?_
          clear hK' K'
          go_frame
          refine y_oper 15 (by kernel_rfl) rfl rfl (fun K' hK' => ?_)
          have lz195 := hB.size
          have lz196 := hz5.lt
          have lz197 := hz11.lt
          have lz198 := hz18.lt
          have lz199 := hz180.lt
          refine wp_new (some 10) rfl (al__3_impl_Form rfl) (fun Wz200 nnz201 => ?_)
          have bz202 := nnz201.below (Below.refl _ _) (Nat.le_refl _)
          replace hB := below_after hB bz202
          replace hz5 := hz5.after bz202
          replace hz11 := hz11.after bz202
          replace hz18 := hz18.after bz202
          replace hz180 := hz180.after bz202
          have hz203 : At Wz200 Wz188.heap.size (.cells (u8s (List.replicate 27 0)) 62 (0, 0)) := nnz201.at_
          refine hK' _ _ ⟨hB, hz5, hz11⟩ (fun _ => trivial) ?_
          clear hK' K' nnz201 bz202
          go_frame
          refine y_oper 16 (by kernel_rfl) rfl rfl (fun K' hK' => ?_)
          refine wp_store_bytes 62 _ _ rfl rfl wdz20.heap.size rfl (Q) rfl _ _ hz180 27 (by kernel_rfl) HQ.out.len (by simp) (fun Wz204 pz205 => ?_)
          replace hB := pz205.below hB (by omega)
          replace hz5 := pz205.other hz5 (by omega)
          replace hz11 := pz205.other hz11 (by omega)
          replace hz18 := pz205.other hz18 (by omega)
          replace hz203 := pz205.other hz203 (by omega)
          replace hz180 : At Wz204 wdz20.heap.size (.cells (u8s (Q)) 62 (0, 0)) := pz205.at_
          refine hK' _ _ ⟨hB, hz5, hz11⟩ (fun _ => trivial) ?_
          clear hK' K' pz205
          refine y_oper 17 (by kernel_rfl) rfl rfl (fun K' hK' => ?_)
          refine wp_store_bytes 62 _ _ rfl rfl Wz188.heap.size rfl (R) rfl _ _ hz203 27 (by kernel_rfl) HRb.out.len (by simp) (fun Wz206 pz207 => ?_)
          replace hB := pz207.below hB (by omega)
          replace hz5 := pz207.other hz5 (by omega)
          replace hz11 := pz207.other hz11 (by omega)
          replace hz18 := pz207.other hz18 (by omega)
          replace hz180 := pz207.other hz180 (by omega)
          replace hz203 : At Wz206 Wz188.heap.size (.cells (u8s (R)) 62 (0, 0)) := pz207.at_
          refine hK' _ _ ⟨hB, hz5, hz11⟩ (fun _ => trivial) ?_
          clear hK' K' pz207
          refine y_done (by kernel_rfl) ?_ _
          go_wp2_with fail
          go_meet
          exact ⟨_, _, rfl, rfl, by omega, ⟨by omega, by omega, by omega, by omega, by omega, by omega⟩, hB, hz5, hz11, hz18, hz180, hz203⟩
        · have lz208 := hB.size
          have lz209 := hz5.lt
          have lz210 := hz11.lt
          have lz211 := hz18.lt
          have lz212 := hz180.lt
          refine wp_new (some 10) rfl (al__3_impl_Form rfl) (fun Wz213 nnz214 => ?_)
          have bz215 := nnz214.below (Below.refl _ _) (Nat.le_refl _)
          replace hB := below_after hB bz215
          replace hz5 := hz5.after bz215
          replace hz11 := hz11.after bz215
          replace hz18 := hz18.after bz215
          replace hz180 := hz180.after bz215
          have hz216 : At Wz213 Wz181.heap.size (.cells (u8s (List.replicate 27 0)) 62 (0, 0)) := nnz214.at_
          refine hK' _ _ ⟨hB, hz5, hz11⟩ (fun _ => trivial) ?_
          clear hK' K' nnz214 bz215
          go_frame
          refine y_oper 13 (by kernel_rfl) rfl rfl (fun K' hK' => ?_)
          have lz219 := hB.size
          have lz220 := hz5.lt
          have lz221 := hz11.lt
          have lz222 := hz18.lt
          have lz223 := hz180.lt
          have lz224 := hz216.lt
          refine wp_call1 (some 33) rfl 64 _ _ rfl (fun args w => by kernel_rfl) _ rfl _ (factorsOf_c R HRb.out _) (fun e Wz217 h => ?_)
          obtain ⟨rfl, bz218⟩ := h
          replace hB := below_after hB bz218
          replace hz5 := hz5.after bz218
          replace hz11 := hz11.after bz218
          replace hz18 := hz18.after bz218
          replace hz180 := hz180.after bz218
          replace hz216 := hz216.after bz218
          clear bz218
          refine ⟨_, rfl, ?_⟩
          refine hK' _ _ ⟨hB, hz5, hz11⟩ (fun _ => trivial) ?_
          clear hK' K'
          go_frame
          refine y_oper 16 (by kernel_rfl) rfl rfl (fun K' hK' => ?_)
          refine wp_store_bytes 62 _ _ rfl rfl wdz20.heap.size rfl (Q) rfl _ _ hz180 27 (by kernel_rfl) HQ.out.len (by simp) (fun Wz225 pz226 => ?_)
          replace hB := pz226.below hB (by omega)
          replace hz5 := pz226.other hz5 (by omega)
          replace hz11 := pz226.other hz11 (by omega)
          replace hz18 := pz226.other hz18 (by omega)
          replace hz216 := pz226.other hz216 (by omega)
          replace hz180 : At Wz225 wdz20.heap.size (.cells (u8s (Q)) 62 (0, 0)) := pz226.at_
          refine hK' _ _ ⟨hB, hz5, hz11⟩ (fun _ => trivial) ?_
          clear hK' K' pz226
          refine y_oper 17 (by kernel_rfl) rfl rfl (fun K' hK' => ?_)
          refine wp_store_bytes 62 _ _ rfl rfl Wz181.heap.size rfl (R) rfl _ _ hz216 27 (by kernel_rfl) HRb.out.len (by simp) (fun Wz227 pz228 => ?_)
          replace hB := pz228.below hB (by omega)
          replace hz5 := pz228.other hz5 (by omega)
          replace hz11 := pz228.other hz11 (by omega)
          replace hz18 := pz228.other hz18 (by omega)
          replace hz180 := pz228.other hz180 (by omega)
          replace hz216 : At Wz227 Wz181.heap.size (.cells (u8s (R)) 62 (0, 0)) := pz228.at_
          refine hK' _ _ ⟨hB, hz5, hz11⟩ (fun _ => trivial) ?_
          clear hK' K' pz228
          refine y_done (by kernel_rfl) ?_ _
          go_wp2_with fail
          go_meet
          exact ⟨_, _, rfl, rfl, by omega, ⟨by omega, by omega, by omega, by omega, by omega, by omega⟩, hB, hz5, hz11, hz18, hz180, hz216⟩
      · have lz229 := hB.size
        have lz230 := hz5.lt
        have lz231 := hz11.lt
        have lz232 := hz18.lt
        have lz233 := hz180.lt
        refine wp_new (some 10) rfl (al__3_impl_Form rfl) (fun Wz234 nnz235 => ?_)
        have bz236 := nnz235.below (Below.refl _ _) (Nat.le_refl _)
        replace hB := below_after hB bz236
        replace hz5 := hz5.after bz236
        replace hz11 := hz11.after bz236
        replace hz18 := hz18.after bz236
        replace hz180 := hz180.after bz236
        have hz237 : At Wz234 Wz177.heap.size (.cells (u8s (List.replicate 27 0)) 62 (0, 0)) := nnz235.at_
        refine hK' _ _ ⟨hB, hz5, hz11⟩ (fun _ => trivial) ?_
        clear hK' K' nnz235 bz236
        go_frame
        refine y_oper 6 (by kernel_rfl) rfl rfl (fun K' hK' => ?_)
        have lz240 := hB.size
        have lz241 := hz5.lt
        have lz242 := hz11.lt
        have lz243 := hz18.lt
        have lz244 := hz180.lt
        have lz245 := hz237.lt
        refine wp_call1 (some 26) rfl 64 _ _ rfl (fun args w => by kernel_rfl) _ rfl _ (factorsOf_c Q HQ.out _) (fun e Wz238 h => ?_)
        obtain ⟨rfl, bz239⟩ := h
        replace hB := below_after hB bz239
        replace hz5 := hz5.after bz239
        replace hz11 := hz11.after bz239
        replace hz18 := hz18.after bz239
        replace hz180 := hz180.after bz239
        replace hz237 := hz237.after bz239
        clear bz239
        refine ⟨_, rfl, ?_⟩
        refine hK' _ _ ⟨hB, hz5, hz11⟩ (fun _ => trivial) ?_
        clear hK' K'
        go_frame
        refine y_oper 13 (by kernel_rfl) rfl rfl (fun K' hK' => ?_)
        have lz248 := hB.size
        have lz249 := hz5.lt
        have lz250 := hz11.lt
        have lz251 := hz18.lt
        have lz252 := hz180.lt
        have lz253 := hz237.lt
        refine wp_call1 (some 33) rfl 64 _ _ rfl (fun args w => by kernel_rfl) _ rfl _ (factorsOf_c R HRb.out _) (fun e Wz246 h => ?_)
        obtain ⟨rfl, bz247⟩ := h
        replace hB := below_after hB bz247
        replace hz5 := hz5.after bz247
        replace hz11 := hz11.after bz247
        replace hz18 := hz18.after bz247
        replace hz180 := hz180.after bz247
        replace hz237 := hz237.after bz247
        clear bz247
        refine ⟨_, rfl, ?_⟩
        refine hK' _ _ ⟨hB, hz5, hz11⟩ (fun _ => trivial) ?_
        clear hK' K'
        go_frame
        refine y_oper 16 (by kernel_rfl) rfl rfl (fun K' hK' => ?_)
        refine wp_store_bytes 62 _ _ rfl rfl wdz20.heap.size rfl (Q) rfl _ _ hz180 27 (by kernel_rfl) HQ.out.len (by simp) (fun Wz254 pz255 => ?_)
        replace hB := pz255.below hB (by omega)
        replace hz5 := pz255.other hz5 (by omega)
        replace hz11 := pz255.other hz11 (by omega)
        replace hz18 := pz255.other hz18 (by omega)
        replace hz237 := pz255.other hz237 (by omega)
        replace hz180 : At Wz254 wdz20.heap.size (.cells (u8s (Q)) 62 (0, 0)) := pz255.at_
        refine hK' _ _ ⟨hB, hz5, hz11⟩ (fun _ => trivial) ?_
        clear hK' K' pz255
        refine y_oper 17 (by kernel_rfl) rfl rfl (fun K' hK' => ?_)
        refine wp_store_bytes 62 _ _ rfl rfl Wz177.heap.size rfl (R) rfl _ _ hz237 27 (by kernel_rfl) HRb.out.len (by simp) (fun Wz256 pz257 => ?_)
        replace hB := pz257.below hB (by omega)
        replace hz5 := pz257.other hz5 (by omega)
        replace hz11 := pz257.other hz11 (by omega)
        replace hz18 := pz257.other hz18 (by omega)
        replace hz180 := pz257.other hz180 (by omega)
        replace hz237 : At Wz256 Wz177.heap.size (.cells (u8s (R)) 62 (0, 0)) := pz257.at_
        refine hK' _ _ ⟨hB, hz5, hz11⟩ (fun _ => trivial) ?_
        clear hK' K' pz257
        refine y_done (by kernel_rfl) ?_ _
        go_wp2_with fail
        go_meet
        exact ⟨_, _, rfl, rfl, by omega, ⟨by omega, by omega, by omega, by omega, by omega, by omega⟩, hB, hz5, hz11, hz18, hz180, hz237⟩
    · have lz258 := hB.size
      have lz259 := hz5.lt
      have lz260 := hz11.lt
      have lz261 := hz18.lt
      refine wp_new (some 10) rfl (al__3_impl_Form rfl) (fun Wz262 nnz263 => ?_)
      have bz264 := nnz263.below (Below.refl _ _) (Nat.le_refl _)
      replace hB := below_after hB bz264
      replace hz5 := hz5.after bz264
      replace hz11 := hz11.after bz264
      replace hz18 := hz18.after bz264
      have hz265 : At Wz262 wdz20.heap.size (.cells (u8s (List.replicate 27 0)) 62 (0, 0)) := nnz263.at_
      refine hK' _ _ ⟨hB, hz5, hz11⟩ (fun _ => trivial) ?_
      clear hK' K' nnz263 bz264
      go_frame
      refine y_two 6 14 (by kernel_rfl) rfl rfl rfl rfl (fun K' hK' => ?_) (fun K' hK' => ?_)
      · have lz268 := hB.size
        have lz269 := hz5.lt
        have lz270 := hz11.lt
        have lz271 := hz18.lt
        have lz272 := hz265.lt
        refine wp_call1 (some 26) rfl 64 _ _ rfl (fun args w => by kernel_rfl) _ rfl _ (factorsOf_c Q HQ.out _) (fun e Wz266 h => ?_)
        obtain ⟨rfl, bz267⟩ := h
        replace hB := below_after hB bz267
        replace hz5 := hz5.after bz267
        replace hz11 := hz11.after bz267
        replace hz18 := hz18.after bz267
        replace hz265 := hz265.after bz267
        clear bz267
        refine ⟨_, rfl, ?_⟩
        refine hK' _ _ ⟨hB, hz5, hz11⟩ (fun _ => trivial) ?_
        clear hK' K'
        go_frame
        refine y_two 13 14 (by kernel_rfl) rfl rfl rfl rfl (fun K' hK' => ?_) (fun K' hK' => ?_)
        · have lz275 := hB.size
          have lz276 := hz5.lt
          have lz277 := hz11.lt
          have lz278 := hz18.lt
          have lz279 := hz265.lt
          refine wp_call1 (some 33) rfl 64 _ _ rfl (fun args w => by kernel_rfl) _ rfl _ (factorsOf_c R HRb.out _) (fun e Wz273 h => ?_)
          obtain ⟨rfl, bz274⟩ := h
          replace hB := below_after hB bz274
          replace hz5 := hz5.after bz274
          replace hz11 := hz11.after bz274
          replace hz18 := hz18.after bz274
          replace hz265 := hz265.after bz274
          clear bz274
          refine ⟨_, rfl, ?_⟩
          refine hK' _ _ ⟨hB, hz5, hz11⟩ (fun _ => trivial) ?_
          clear hK' K'
          go_frame
          refine y_oper 14 (by kernel_rfl) rfl rfl (fun K' hK' => ?_)
          have lz280 := hB.size
          have lz281 := hz5.lt
          have lz282 := hz11.lt
          have lz283 := hz18.lt
          have lz284 := hz265.lt
          refine wp_new (some 9) rfl (al__3_impl_Form rfl) (fun Wz285 nnz286 => ?_)
          have bz287 := nnz286.below (Below.refl _ _) (Nat.le_refl _)
          replace hB := below_after hB bz287
          replace hz5 := hz5.after bz287
          replace hz11 := hz11.after bz287
          replace hz18 := hz18.after bz287
          replace hz265 := hz265.after bz287
          have hz288 : At Wz285 Wz273.heap.size (.cells (u8s (List.replicate 27 0)) 62 (0, 0)) := nnz286.at_
          refine hK' _ _ ⟨hB, hz5, hz11⟩ (fun _ => trivial) ?_
          clear hK' K' nnz286 bz287
          go_frame
          refine y_oper 16 (by kernel_rfl) rfl rfl (fun K' hK' => ?_)
          refine wp_store_bytes 62 _ _ rfl rfl Wz273.heap.size rfl (Q) rfl _ _ hz288 27 (by kernel_rfl) HQ.out.len (by simp) (fun Wz289 pz290 => ?_)
          replace hB := pz290.below hB (by omega)
          replace hz5 := pz290.other hz5 (by omega)
          replace hz11 := pz290.other hz11 (by omega)
          replace hz18 := pz290.other hz18 (by omega)
          replace hz265 := pz290.other hz265 (by omega)
          replace hz288 : At Wz289 Wz273.heap.size (.cells (u8s (Q)) 62 (0, 0)) := pz290.at_
          refine hK' _ _ ⟨hB, hz5, hz11⟩ (fun _ => trivial) ?_
          clear hK' K' pz290
          refine y_oper 17 (by kernel_rfl) rfl rfl (fun K' hK' => ?_)
          refine wp_store_bytes 62 _ _ rfl rfl wdz20.heap.size rfl (R) rfl _ _ hz265 27 (by kernel_rfl) HRb.out.len (by simp) (fun Wz291 pz292 => ?_)
          replace hB := pz292.below hB (by omega)
          replace hz5 := pz292.other hz5 (by omega)
          replace hz11 := pz292.other hz11 (by omega)
          replace hz18 := pz292.other hz18 (by omega)
          replace hz288 := pz292.other hz288 (by omega)
          replace hz265 : At Wz291 wdz20.heap.size (.cells (u8s (R)) 62 (0, 0)) := pz292.at_
          refine hK' _ _ ⟨hB, hz5, hz11⟩ (fun _ => trivial) ?_
          clear hK' K' pz292
          refine y_done (by kernel_rfl) ?_ _
          go_wp2_with fail
          go_meet
          exact ⟨_, _, rfl, rfl, by omega, ⟨by omega, by omega, by omega, by omega, by omega, by omega⟩, hB, hz5, hz11, hz18, hz288, hz265⟩
        · have lz293 := hB.size
          have lz294 := hz5.lt
          have lz295 := hz11.lt
          have lz296 := hz18.lt
          have lz297 := hz265.lt
          refine wp_new (some 9) rfl (al__3_impl_Form rfl) (fun Wz298 nnz299 => ?_)
          have bz300 := nnz299.below (Below.refl _ _) (Nat.le_refl _)
          replace hB := below_after hB bz300
          replace hz5 := hz5.after bz300
          replace hz11 := hz11.after bz300
          replace hz18 := hz18.after bz300
          replace hz265 := hz265.after bz300
          have hz301 : At Wz298 Wz266.heap.size (.cells (u8s (List.replicate 27 0)) 62 (0, 0)) := nnz299.at_
          refine hK' _ _ ⟨hB, hz5, hz11⟩ (fun _ => trivial) ?_
          clear hK' K' nnz299 bz300
          go_frame
          refine y_oper 13 (by kernel_rfl) rfl rfl (fun K' hK' => ?_)
          have lz304 := hB.size
          have lz305 := hz5.lt
          have lz306 := hz11.lt
          have lz307 := hz18.lt
          have lz308 := hz265.lt
          have lz309 := hz301.lt
          refine wp_call1 (some 33) rfl 64 _ _ rfl (fun args w => by kernel_rfl) _ rfl _ (factorsOf_c R HRb.out _) (fun e Wz302 h => ?_)
          obtain ⟨rfl, bz303⟩ := h
          replace hB := below_after hB bz303
          replace hz5 := hz5.after bz303
          replace hz11 := hz11.after bz303
          replace hz18 := hz18.after bz303
          replace hz265 := hz265.after bz303
          replace hz301 := hz301.after bz303
          clear bz303
          refine ⟨_, rfl, ?_⟩
          refine hK' _ _ ⟨hB, hz5, hz11⟩ (fun _ => trivial) ?_
          clear hK' K'
          go_frame
          refine y_oper 16 (by kernel_rfl) rfl rfl (fun K' hK' => ?_)
          refine wp_store_bytes 62 _ _ rfl rfl Wz266.heap.size rfl (Q) rfl _ _ hz301 27 (by kernel_rfl) HQ.out.len (by simp) (fun Wz310 pz311 => ?_)
          replace hB := pz311.below hB (by omega)
          replace hz5 := pz311.other hz5 (by omega)
          replace hz11 := pz311.other hz11 (by omega)
          replace hz18 := pz311.other hz18 (by omega)
          replace hz265 := pz311.other hz265 (by omega)
          replace hz301 : At Wz310 Wz266.heap.size (.cells (u8s (Q)) 62 (0, 0)) := pz311.at_
          refine hK' _ _ ⟨hB, hz5, hz11⟩ (fun _ => trivial) ?_
          clear hK' K' pz311
          refine y_oper 17 (by kernel_rfl) rfl rfl (fun K' hK' => ?_)
          refine wp_store_bytes 62 _ _ rfl rfl wdz20.heap.size rfl (R) rfl _ _ hz265 27 (by kernel_rfl) HRb.out.len (by simp) (fun Wz312 pz313 => ?_)
          replace hB := pz313.below hB (by omega)
          replace hz5 := pz313.other hz5 (by omega)
          replace hz11 := pz313.other hz11 (by omega)
          replace hz18 := pz313.other hz18 (by omega)
          replace hz301 := pz313.other hz301 (by omega)
          replace hz265 : At Wz312 wdz20.heap.size (.cells (u8s (R)) 62 (0, 0)) := pz313.at_
          refine hK' _ _ ⟨hB, hz5, hz11⟩ (fun _ => trivial) ?_
          clear hK' K' pz313
          refine y_done (by kernel_rfl) ?_ _
          go_wp2_with fail
          go_meet
          exact ⟨_, _, rfl, rfl, by omega, ⟨by omega, by omega, by omega, by omega, by omega, by omega⟩, hB, hz5, hz11, hz18, hz301, hz265⟩
      · have lz314 := hB.size
        have lz315 := hz5.lt
        have lz316 := hz11.lt
        have lz317 := hz18.lt
        have lz318 := hz265.lt
        refine wp_new (some 9) rfl (al__3_impl_Form rfl) (fun Wz319 nnz320 => ?_)
        have bz321 := nnz320.below (Below.refl _ _) (Nat.le_refl _)
        replace hB := below_after hB bz321
        replace hz5 := hz5.after bz321
        replace hz11 := hz11.after bz321
        replace hz18 := hz18.after bz321
        replace hz265 := hz265.after bz321
        have hz322 : At Wz319 Wz262.heap.size (.cells (u8s (List.replicate 27 0)) 62 (0, 0)) := nnz320.at_
        refine hK' _ _ ⟨hB, hz5, hz11⟩ (fun _ => trivial) ?_
        clear hK' K' nnz320 bz321
        go_frame
        refine y_oper 6 (by kernel_rfl) rfl rfl (fun K' hK' => ?_)
        have lz325 := hB.size
        have lz326 := hz5.lt
        have lz327 := hz11.lt
        have lz328 := hz18.lt
        have lz329 := hz265.lt
        have lz330 := hz322.lt
        refine wp_call1 (some 26) rfl 64 _ _ rfl (fun args w => by kernel_rfl) _ rfl _ (factorsOf_c Q HQ.out _) (fun e Wz323 h => ?_)
        obtain ⟨rfl, bz324⟩ := h
        replace hB := below_after hB bz324
        replace hz5 := hz5.after bz324
        replace hz11 := hz11.after bz324
        replace hz18 := hz18.after bz324
        replace hz265 := hz265.after bz324
        replace hz322 := hz322.after bz324
        clear bz324
        refine ⟨_, rfl, ?_⟩
        refine hK' _ _ ⟨hB, hz5, hz11⟩ (fun _ => trivial) ?_
        clear hK' K'
        go_frame
        refine y_oper 13 (by kernel_rfl) rfl rfl (fun K' hK' => ?_)
        have lz333 := hB.size
        have lz334 := hz5.lt
        have lz335 := hz11.lt
        have lz336 := hz18.lt
        have lz337 := hz265.lt
        have lz338 := hz322.lt
        refine wp_call1 (some 33) rfl 64 _ _ rfl (fun args w => by kernel_rfl) _ rfl _ (factorsOf_c R HRb.out _) (fun e Wz331 h => ?_)
        obtain ⟨rfl, bz332⟩ := h
        replace hB := below_after hB bz332
        replace hz5 := hz5.after bz332
        replace hz11 := hz11.after bz332
        replace hz18 := hz18.after bz332
        replace hz265 := hz265.after bz332
        replace hz322 := hz322.after bz332
        clear bz332
        refine ⟨_, rfl, ?_⟩
        refine hK' _ _ ⟨hB, hz5, hz11⟩ (fun _ => trivial) ?_
        clear hK' K'
        go_frame
        refine y_oper 16 (by kernel_rfl) rfl rfl (fun K' hK' => ?_)
        refine wp_store_bytes 62 _ _ rfl rfl Wz262.heap.size rfl (Q) rfl _ _ hz322 27 (by kernel_rfl) HQ.out.len (by simp) (fun Wz339 pz340 => ?_)
        replace hB := pz340.below hB (by omega)
        replace hz5 := pz340.other hz5 (by omega)
        replace hz11 := pz340.other hz11 (by omega)
        replace hz18 := pz340.other hz18 (by omega)
        replace hz265 := pz340.other hz265 (by omega)
        replace hz322 : At Wz339 Wz262.heap.size (.cells (u8s (Q)) 62 (0, 0)) := pz340.at_
        refine hK' _ _ ⟨hB, hz5, hz11⟩ (fun _ => trivial) ?_
        clear hK' K' pz340
        refine y_oper 17 (by kernel_rfl) rfl rfl (fun K' hK' => ?_)
        refine wp_store_bytes 62 _ _ rfl rfl wdz20.heap.size rfl (R) rfl _ _ hz265 27 (by kernel_rfl) HRb.out.len (by simp) (fun Wz341 pz342 => ?_)
        replace hB := pz342.below hB (by omega)
        replace hz5 := pz342.other hz5 (by omega)
        replace hz11 := pz342.other hz11 (by omega)
        replace hz18 := pz342.other hz18 (by omega)
        replace hz322 := pz342.other hz322 (by omega)
        replace hz265 : At Wz341 wdz20.heap.size (.cells (u8s (R)) 62 (0, 0)) := pz342.at_
        refine hK' _ _ ⟨hB, hz5, hz11⟩ (fun _ => trivial) ?_
        clear hK' K' pz342
        refine y_done (by kernel_rfl) ?_ _
        go_wp2_with fail
        go_meet
        exact ⟨_, _, rfl, rfl, by omega, ⟨by omega, by omega, by omega, by omega, by omega, by omega⟩, hB, hz5, hz11, hz18, hz322, hz265⟩
  case rest =>
  clear hB hz5 hz11 hz18
  obtain ⟨b9, b10, rfl, rfl, hne9, ⟨l1, l2, l3, l4, l5, l6⟩, hB, h3, h4, h6, h9, h10⟩ := hcut
  obtain ⟨wc, rfl⟩ := cut_worldF hB
  go_upto_region 3 with (fail)
  refine wp_region_y (zs := [12]) (S := fun w' => Below w.heap.size w w' ∧ At w' w.heap.size (.cells #[.int .i64 p, .int .i64 n, .int .i64 m, .int .i64 k, .slice (some ⟨b, off, none⟩) qs.length c] 28 (0, 0)) ∧ At w' b10 (.cells (u8s (R)) 62 (0, 0))) (S2 := fun w' => At w' b9 (.cells (u8s (Q)) 62 (0, 0))) (by kernel_rfl) ?_
  change wpAnyY _ _ _ _ _ _ _ _ _ _ (World.drew _)
  generalize hwdz343 : World.drew _ = wdz343
  replace hB : Below w.heap.size w wdz343 := by rw [← hwdz343]; exact hB.drew
  replace h3 : At wdz343 w.heap.size (.cells #[.int .i64 p, .int .i64 n, .int .i64 m, .int .i64 k, .slice (some ⟨b, off, none⟩) qs.length c] 28 (0, 0)) := by rw [← hwdz343]; exact h3
  replace h4 : At wdz343 Wz2.heap.size (.cells #[.int .i64 i, .int .i64 j, .int .i64 f] 58 (0, 0)) := by rw [← hwdz343]; exact h4
  replace h6 : At wdz343 Wz8.heap.size (.cells #[.int .i64 0, .int .i64 0, .int .i64 0, .int .i64 0, .slice none 0 0] 28 (0, 0)) := by rw [← hwdz343]; exact h6
  replace h9 : At wdz343 b9 (.cells (u8s (Q)) 62 (0, 0)) := by rw [← hwdz343]; exact h9
  replace h10 : At wdz343 b10 (.cells (u8s (R)) 62 (0, 0)) := by rw [← hwdz343]; exact h10
  clear hwdz343
  refine y_yield 0 (some 34) (.int .i64 G) rfl (by kernel_rfl) (by kernel_rfl) (by kernel_rfl) (fun _ _ _ h => h) rfl rfl ⟨hB, h3, h10⟩ (fun w' h' => exec_move _ rfl (.int .i64 G) rfl) ?_
  go_frame
  refine y_yield 1 (some 35) (.pointer (some ⟨w.heap.size, 0, none⟩)) rfl (by kernel_rfl) (by kernel_rfl) (by kernel_rfl) (fun _ _ _ h => h) rfl rfl ⟨hB, h3, h10⟩ (fun w' h' => exec_fieldAddr 28 _ 0 rfl _ (by kernel_rfl)) ?_
  go_frame
  refine y_yield 2 (some 36) (.int .i64 p) rfl (by kernel_rfl) (by kernel_rfl) (by kernel_rfl) (fun _ _ _ h => h) rfl rfl ⟨hB, h3, h10⟩ (fun w' h' => exec_load_one 2 _ rfl w.heap.size 0 rfl (.int .i64 p) _ Try.underlying2 rfl (h'.2.1.at_ 0)) ?_
  go_frame
  refine y_yield 3 (some 37) (.int .i64 G) rfl (by kernel_rfl) (by kernel_rfl) (by kernel_rfl) (fun _ _ _ h => h) rfl rfl ⟨hB, h3, h10⟩ (fun w' h' => exec_move _ rfl (.int .i64 G) rfl) ?_
  go_frame
  refine y_yield 4 (some 38) (.pointer (some ⟨b9, G * 9, none⟩)) rfl (by kernel_rfl) (by kernel_rfl) (by kernel_rfl) (fun _ _ _ h => h) rfl rfl ⟨hB, h3, h10⟩ (fun w' h' => exec_index_arr0f 62 49 _ _ rfl b9 3 G 9 rfl rfl Try.underlying62 (by kernel_rfl) hG3) ?_
  go_frame
  refine y_yield2 5 (some 39) (.agg (u8s (facQ Q G))) rfl (by kernel_rfl) (by kernel_rfl) (by kernel_rfl) (by kernel_rfl) (fun _ _ _ h => h) rfl rfl ⟨hB, h3, h10⟩ h9 (fun w' h' h2' => exec_load_seg 49 _ rfl b9 (G * 9) rfl _ (Q) _ 9 h2' Try.underlying49 rfl (by kernel_rfl) (by rw [HQ.out.len]; omega) (facQ Q G) rfl) ?_
  go_frame
  refine y_yield 6 (some 40) (.int .i64 s) rfl (by kernel_rfl) (by kernel_rfl) (by kernel_rfl) (fun _ _ _ h => h) rfl rfl ⟨hB, h3, h10⟩ (fun w' h' => exec_move _ rfl (.int .i64 s) rfl) ?_
  go_frame
  refine y_yield 7 (some 41) (.int .i64 G) rfl (by kernel_rfl) (by kernel_rfl) (by kernel_rfl) (fun _ _ _ h => h) rfl rfl ⟨hB, h3, h10⟩ (fun w' h' => exec_move _ rfl (.int .i64 G) rfl) ?_
  go_frame
  refine y_yield 8 (some 42) (.pointer (some ⟨b10, G * 9, none⟩)) rfl (by kernel_rfl) (by kernel_rfl) (by kernel_rfl) (fun _ _ _ h => h) rfl rfl ⟨hB, h3, h10⟩ (fun w' h' => exec_index_arr0f 62 49 _ _ rfl b10 3 G 9 rfl rfl Try.underlying62 (by kernel_rfl) hG3) ?_
  go_frame
  refine y_yield 9 (some 43) (.agg (u8s (facQ R G))) rfl (by kernel_rfl) (by kernel_rfl) (by kernel_rfl) (fun _ _ _ h => h) rfl rfl ⟨hB, h3, h10⟩ (fun w' h' => exec_load_seg 49 _ rfl b10 (G * 9) rfl _ (R) _ 9 h'.2.2 Try.underlying49 rfl (by kernel_rfl) (by rw [HRb.out.len]; omega) (facQ R G) rfl) ?_
  go_frame
  refine y_oper 10 (by kernel_rfl) rfl rfl (fun K' hK' => ?_)
  have lz346 := hB.size
  have lz347 := h3.lt
  have lz348 := h4.lt
  have lz349 := h6.lt
  have lz350 := h9.lt
  have lz351 := h10.lt
  refine wp_call4 (some 44) rfl 65 _ _ _ _ _ rfl (fun args w => by kernel_rfl) _ _ _ _ rfl rfl rfl rfl _ (addedForm_c p s (facQ Q G) (facQ R G) (facQ_bytes HQ.out hG3) (facQ_bytes HRb.out hG3) _ (by omega) (by omega) (by omega) (by omega)) (fun e Wz344 h => ?_)
  obtain ⟨rfl, bz345⟩ := h
  replace hB := below_after hB bz345
  replace h3 := h3.after bz345
  replace h4 := h4.after bz345
  replace h6 := h6.after bz345
  replace h9 := h9.after bz345
  replace h10 := h10.after bz345
  rw [HF1.out]
  clear bz345
  refine ⟨_, rfl, ?_⟩
  refine hK' _ _ ⟨hB, h3, h10⟩ (fun _ => h9) ?_
  clear hK' K'
  go_frame
  refine y_yield 11 (some 45) (.pointer (some ⟨b9, G * 9, none⟩)) rfl (by kernel_rfl) (by kernel_rfl) (by kernel_rfl) (fun _ _ _ h => h) rfl rfl ⟨hB, h3, h10⟩ (fun w' h' => exec_index_arr0f 62 49 _ _ rfl b9 3 G 9 rfl rfl Try.underlying62 (by kernel_rfl) hG3) ?_
  go_frame
  refine y_oper 12 (by kernel_rfl) rfl rfl (fun K' hK' => ?_)
  refine wp_store_u8s 49 _ _ rfl rfl b9 (G * 9) rfl (F1) rfl _ _ h9 9 (by kernel_rfl) HF1b.out.len (by rw [HQ.out.len]; omega) (fun Wz352 pz353 => ?_)
  replace hB := pz353.below hB (by omega)
  replace h3 := pz353.other h3 (by omega)
  replace h4 := pz353.other h4 (by omega)
  replace h6 := pz353.other h6 (by omega)
  replace h10 := pz353.other h10 (by omega)
  replace h9 : At Wz352 b9 (.cells (u8s (Q1)) 62 (0, 0)) := by have h9 := pz353.at_; rwa [HQ1.out] at h9
  refine hK' _ _ ⟨hB, h3, h10⟩ (fun h => absurd (by decide) h) ?_
  clear hK' K' pz353
  refine y_done (by kernel_rfl) ?_ _
  go_upto_region 4 with (fail)
  refine wp_region_y (zs := [15]) (S := fun w' => Below w.heap.size w w' ∧ At w' w.heap.size (.cells #[.int .i64 p, .int .i64 n, .int .i64 m, .int .i64 k, .slice (some ⟨b, off, none⟩) qs.length c] 28 (0, 0)) ∧ At w' b9 (.cells (u8s (Q1)) 62 (0, 0))) (S2 := fun w' => At w' b10 (.cells (u8s (R)) 62 (0, 0))) (by kernel_rfl) ?_
  change wpAnyY _ _ _ _ _ _ _ _ _ _ (World.drew _)
  generalize hwdz355 : World.drew _ = wdz355
  replace hB : Below w.heap.size w wdz355 := by rw [← hwdz355]; exact hB.drew
  replace h3 : At wdz355 w.heap.size (.cells #[.int .i64 p, .int .i64 n, .int .i64 m, .int .i64 k, .slice (some ⟨b, off, none⟩) qs.length c] 28 (0, 0)) := by rw [← hwdz355]; exact h3
  replace h4 : At wdz355 Wz2.heap.size (.cells #[.int .i64 i, .int .i64 j, .int .i64 f] 58 (0, 0)) := by rw [← hwdz355]; exact h4
  replace h6 : At wdz355 Wz8.heap.size (.cells #[.int .i64 0, .int .i64 0, .int .i64 0, .int .i64 0, .slice none 0 0] 28 (0, 0)) := by rw [← hwdz355]; exact h6
  replace h9 : At wdz355 b9 (.cells (u8s (Q1)) 62 (0, 0)) := by rw [← hwdz355]; exact h9
  replace h10 : At wdz355 b10 (.cells (u8s (R)) 62 (0, 0)) := by rw [← hwdz355]; exact h10
  clear hwdz355
  refine y_yield 0 (some 46) (.int .i64 H) rfl (by kernel_rfl) (by kernel_rfl) (by kernel_rfl) (fun _ _ _ h => h) rfl rfl ⟨hB, h3, h9⟩ (fun w' h' => exec_move _ rfl (.int .i64 H) rfl) ?_
  go_frame
  refine y_yield 1 (some 47) (.pointer (some ⟨w.heap.size, 0, none⟩)) rfl (by kernel_rfl) (by kernel_rfl) (by kernel_rfl) (fun _ _ _ h => h) rfl rfl ⟨hB, h3, h9⟩ (fun w' h' => exec_fieldAddr 28 _ 0 rfl _ (by kernel_rfl)) ?_
  go_frame
  refine y_yield 2 (some 48) (.int .i64 p) rfl (by kernel_rfl) (by kernel_rfl) (by kernel_rfl) (fun _ _ _ h => h) rfl rfl ⟨hB, h3, h9⟩ (fun w' h' => exec_load_one 2 _ rfl w.heap.size 0 rfl (.int .i64 p) _ Try.underlying2 rfl (h'.2.1.at_ 0)) ?_
  go_frame
  refine y_yield 3 (some 49) (.int .i64 H) rfl (by kernel_rfl) (by kernel_rfl) (by kernel_rfl) (fun _ _ _ h => h) rfl rfl ⟨hB, h3, h9⟩ (fun w' h' => exec_move _ rfl (.int .i64 H) rfl) ?_
  go_frame
  refine y_yield 4 (some 50) (.pointer (some ⟨b10, H * 9, none⟩)) rfl (by kernel_rfl) (by kernel_rfl) (by kernel_rfl) (fun _ _ _ h => h) rfl rfl ⟨hB, h3, h9⟩ (fun w' h' => exec_index_arr0f 62 49 _ _ rfl b10 3 H 9 rfl rfl Try.underlying62 (by kernel_rfl) hH3) ?_
  go_frame
  refine y_yield2 5 (some 51) (.agg (u8s (facQ R H))) rfl (by kernel_rfl) (by kernel_rfl) (by kernel_rfl) (by kernel_rfl) (fun _ _ _ h => h) rfl rfl ⟨hB, h3, h9⟩ h10 (fun w' h' h2' => exec_load_seg 49 _ rfl b10 (H * 9) rfl _ (R) _ 9 h2' Try.underlying49 rfl (by kernel_rfl) (by rw [HRb.out.len]; omega) (facQ R H) rfl) ?_
  go_frame
  refine y_yield 6 (some 52) (.pointer (some ⟨w.heap.size, 0, none⟩)) rfl (by kernel_rfl) (by kernel_rfl) (by kernel_rfl) (fun _ _ _ h => h) rfl rfl ⟨hB, h3, h9⟩ (fun w' h' => exec_fieldAddr 28 _ 0 rfl _ (by kernel_rfl)) ?_
  go_frame
  refine y_yield 7 (some 53) (.int .i64 p) rfl (by kernel_rfl) (by kernel_rfl) (by kernel_rfl) (fun _ _ _ h => h) rfl rfl ⟨hB, h3, h9⟩ (fun w' h' => exec_load_one 2 _ rfl w.heap.size 0 rfl (.int .i64 p) _ Try.underlying2 rfl (h'.2.1.at_ 0)) ?_
  go_frame
  refine y_yield 8 (some 54) (.int .i64 s) rfl (by kernel_rfl) (by kernel_rfl) (by kernel_rfl) (fun _ _ _ h => h) rfl rfl ⟨hB, h3, h9⟩ (fun w' h' => exec_move _ rfl (.int .i64 s) rfl) ?_
  go_frame
  refine y_yield 9 (some 55) (.int .i64 S2) rfl (by kernel_rfl) (by kernel_rfl) (by kernel_rfl) (fun _ _ _ h => h) rfl rfl ⟨hB, h3, h9⟩ (fun w' h' => exec_sub _ _ _ _ rfl p s S2 rfl rfl HS2.out) ?_
  go_frame
  refine y_yield 10 (some 56) (.int .i64 H) rfl (by kernel_rfl) (by kernel_rfl) (by kernel_rfl) (fun _ _ _ h => h) rfl rfl ⟨hB, h3, h9⟩ (fun w' h' => exec_move _ rfl (.int .i64 H) rfl) ?_
  go_frame
  refine y_yield 11 (some 57) (.pointer (some ⟨b9, H * 9, none⟩)) rfl (by kernel_rfl) (by kernel_rfl) (by kernel_rfl) (fun _ _ _ h => h) rfl rfl ⟨hB, h3, h9⟩ (fun w' h' => exec_index_arr0f 62 49 _ _ rfl b9 3 H 9 rfl rfl Try.underlying62 (by kernel_rfl) hH3) ?_
  go_frame
  refine y_yield 12 (some 58) (.agg (u8s (facQ Q1 H))) rfl (by kernel_rfl) (by kernel_rfl) (by kernel_rfl) (fun _ _ _ h => h) rfl rfl ⟨hB, h3, h9⟩ (fun w' h' => exec_load_seg 49 _ rfl b9 (H * 9) rfl _ (Q1) _ 9 h'.2.2 Try.underlying49 rfl (by kernel_rfl) (by rw [HQ1b.out.len]; omega) (facQ Q1 H) rfl) ?_
  go_frame
  refine y_oper 13 (by kernel_rfl) rfl rfl (fun K' hK' => ?_)
  have lz358 := hB.size
  have lz359 := h3.lt
  have lz360 := h4.lt
  have lz361 := h6.lt
  have lz362 := h9.lt
  have lz363 := h10.lt
  refine wp_call4 (some 59) rfl 65 _ _ _ _ _ rfl (fun args w => by kernel_rfl) _ _ _ _ rfl rfl rfl rfl _ (addedForm_c p S2 (facQ R H) (facQ Q1 H) (facQ_bytes HRb.out hH3) (facQ_bytes HQ1b.out hH3) _ (by omega) (by omega) (by omega) (by omega)) (fun e Wz356 h => ?_)
  obtain ⟨rfl, bz357⟩ := h
  replace hB := below_after hB bz357
  replace h3 := h3.after bz357
  replace h4 := h4.after bz357
  replace h6 := h6.after bz357
  replace h9 := h9.after bz357
  replace h10 := h10.after bz357
  rw [HF2.out]
  clear bz357
  refine ⟨_, rfl, ?_⟩
  refine hK' _ _ ⟨hB, h3, h9⟩ (fun _ => h10) ?_
  clear hK' K'
  go_frame
  refine y_yield 14 (some 60) (.pointer (some ⟨b10, H * 9, none⟩)) rfl (by kernel_rfl) (by kernel_rfl) (by kernel_rfl) (fun _ _ _ h => h) rfl rfl ⟨hB, h3, h9⟩ (fun w' h' => exec_index_arr0f 62 49 _ _ rfl b10 3 H 9 rfl rfl Try.underlying62 (by kernel_rfl) hH3) ?_
  go_frame
  refine y_oper 15 (by kernel_rfl) rfl rfl (fun K' hK' => ?_)
  refine wp_store_u8s 49 _ _ rfl rfl b10 (H * 9) rfl (F2) rfl _ _ h10 9 (by kernel_rfl) HF2b.out.len (by rw [HRb.out.len]; omega) (fun Wz364 pz365 => ?_)
  replace hB := pz365.below hB (by omega)
  replace h3 := pz365.other h3 (by omega)
  replace h4 := pz365.other h4 (by omega)
  replace h6 := pz365.other h6 (by omega)
  replace h9 := pz365.other h9 (by omega)
  replace h10 : At Wz364 b10 (.cells (u8s (R1)) 62 (0, 0)) := by have h9 := pz365.at_; rwa [HR1.out] at h9
  refine hK' _ _ ⟨hB, h3, h9⟩ (fun h => absurd (by decide) h) ?_
  clear hK' K' pz365
  refine y_done (by kernel_rfl) ?_ _
  go_upto_region 5 with (fail)
  refine wp_region_lit ?_
  refine ls_ex (some 61) (.agg #[.int .i64 p, .int .i64 n, .int .i64 m, .int .i64 k, .slice (some ⟨b, off, none⟩) qs.length c]) rfl rfl (exec_load_all 28 _ rfl w.heap.size rfl _ _ _ h3 Try.underlying28 rfl 5 (by kernel_rfl) rfl) ?_
  go_frame
  refine ls_ex (some 62) (.pointer (some ⟨w.heap.size, 4, none⟩)) rfl rfl (exec_fieldAddr 28 _ 4 rfl _ (by kernel_rfl)) ?_
  go_frame
  refine ls_ex (some 63) (.slice (some ⟨b, off, none⟩) qs.length c) rfl rfl (exec_load_one 26 _ rfl w.heap.size 4 rfl (.slice (some ⟨b, off, none⟩) qs.length c) _ Try.underlying26 rfl (h3.at_ 4)) ?_
  go_frame
  refine ls_op rfl (fun K' hK' => ?_)
  have lz367 := hB.size
  have lz368 := h3.lt
  have lz369 := h4.lt
  have lz370 := h6.lt
  have lz371 := h9.lt
  have lz372 := h10.lt
  refine wp_new (some 64) rfl (exec_bs1PP _ rfl (some ⟨b, off, none⟩) qs.length c rfl) (fun Wz373 nnz374 => ?_)
  have bz375 := nnz374.below (Below.refl _ _) (Nat.le_refl _)
  replace hB := below_after hB bz375
  replace h3 := h3.after bz375
  replace h4 := h4.after bz375
  replace h6 := h6.after bz375
  replace h9 := h9.after bz375
  replace h10 := h10.after bz375
  have hlz376 : At Wz373 Wz364.heap.size (.cells #[.slice (some ⟨b, off, none⟩) qs.length c] 26 (0, 0)) := nnz374.at_
  refine hK' _ _ ?_
  clear hK' K' nnz374 bz375
  go_frame
  refine ls_op rfl (fun K' hK' => ?_)
  have lz379 := hB.size
  have lz380 := h3.lt
  have lz381 := h4.lt
  have lz382 := h6.lt
  have lz383 := h9.lt
  have lz384 := h10.lt
  have lz385 := hlz376.lt
  have lo3 := hB.size
  refine wp_call2 (some 65) rfl 44 _ _ _ rfl (fun args w => by kernel_rfl) _ _ rfl rfl _ (withProducts1_c p n m k _ rfl (Wz364.heap.size) (some ⟨b, off, none⟩) c qs _ hlz376 (hR.keep hB) (fun h => by cases h) (by omega)) (fun e Wz377 h => ?_)
  obtain ⟨v3, rfl, ho, bz378⟩ := h
  replace hB := below_after hB bz378
  replace h3 := h3.after bz378
  replace h4 := h4.after bz378
  replace h6 := h6.after bz378
  replace h9 := h9.after bz378
  replace h10 := h10.after bz378
  replace hlz376 := hlz376.after bz378
  obtain ⟨A3, c3, rfl⟩ := Own.rdN2 ho (n := qs.length) rfl
  obtain ⟨gm, rfl, hgm⟩ := ho.blk (by omega)
  clear bz378
  refine ⟨_, rfl, ?_⟩
  refine hK' _ _ ?_
  clear hK' K'
  go_frame
  refine ls_op rfl (fun K' hK' => ?_)
  have lz386 := hB.size
  have lz387 := h3.lt
  have lz388 := h4.lt
  have lz389 := h6.lt
  have lz390 := h9.lt
  have lz391 := h10.lt
  have lz392 := hlz376.lt
  have lz393 : gm < Wz377.heap.size := (ho.lt rfl).2
  have lz394 : Wz373.heap.size ≤ gm := (ho.lt rfl).1
  have naz399 := ho.away_new
  refine wp_new (some 11) rfl (al_impl_Scheme rfl) (fun Wz395 nnz396 => ?_)
  have bz397 := nnz396.below (Below.refl _ _) (Nat.le_refl _)
  replace hB := below_after hB bz397
  replace h3 := h3.after bz397
  replace h4 := h4.after bz397
  replace h6 := h6.after bz397
  replace h9 := h9.after bz397
  replace h10 := h10.after bz397
  replace hlz376 := hlz376.after bz397
  replace ho := ho.below bz397
  have hz398 : At Wz395 Wz377.heap.size (.cells #[.int .i64 0, .int .i64 0, .int .i64 0, .int .i64 0, .slice none 0 0] 28 (0, 0)) := nnz396.at_
  refine hK' _ _ ?_
  clear hK' K' nnz396 bz397
  go_frame
  refine ls_op rfl (fun K' hK' => ?_)
  refine wp_store_all 28 _ _ rfl rfl Wz377.heap.size rfl #[.int .i64 p, .int .i64 n, .int .i64 m, .int .i64 k, .slice (some ⟨gm, 0, none⟩) qs.length c3] rfl _ _ hz398 5 (by kernel_rfl) rfl rfl (one5 _ _ _ _ _ _ _) (fun Wz400 pz401 => ?_)
  replace hB := pz401.below hB (by omega)
  replace h3 := pz401.other h3 (by omega)
  replace h4 := pz401.other h4 (by omega)
  replace h6 := pz401.other h6 (by omega)
  replace h9 := pz401.other h9 (by omega)
  replace h10 := pz401.other h10 (by omega)
  replace hlz376 := pz401.other hlz376 (by omega)
  replace ho := ho.put pz401 naz399
  replace hz398 : At Wz400 Wz377.heap.size (.cells #[.int .i64 p, .int .i64 n, .int .i64 m, .int .i64 k, .slice (some ⟨gm, 0, none⟩) qs.length c3] 28 (0, 0)) := pz401.at_
  refine hK' _ _ ?_
  clear hK' K' pz401
  refine wpList_nil ?_
  go_upto_region 6 with (fail)
  go_cut [] from 66 to 79 (fun  wx => Below w.heap.size w wx ∧ At wx Wz2.heap.size (.cells #[.int .i64 i, .int .i64 j, .int .i64 f] 58 (0, 0)) ∧ At wx Wz8.heap.size (.cells #[.int .i64 0, .int .i64 0, .int .i64 0, .int .i64 0, .slice none 0 0] 28 (0, 0)) ∧ At wx Wz377.heap.size (.cells #[.int .i64 p, .int .i64 n, .int .i64 m, .int .i64 k, .slice (some ⟨gm, 0, none⟩) qs.length c3] 28 (0, 0)) ∧ Own wx w.heap.size (.slice (some ⟨gm, 0, none⟩) qs.length c3) ((qs.set i Q1).set j R1))
  case first =>
    refine wp_region_y (zs := [13, 14, 15]) (S := fun w' => Below w.heap.size w w' ∧ At w' Wz377.heap.size (.cells #[.int .i64 p, .int .i64 n, .int .i64 m, .int .i64 k, .slice (some ⟨gm, 0, none⟩) qs.length c3] 28 (0, 0)) ∧ At w' Wz2.heap.size (.cells #[.int .i64 i, .int .i64 j, .int .i64 f] 58 (0, 0)) ∧ At w' b9 (.cells (u8s (Q1)) 62 (0, 0)) ∧ At w' b10 (.cells (u8s (R1)) 62 (0, 0))) (S2 := fun w' => True) (by kernel_rfl) ?_
    change wpAnyY _ _ _ _ _ _ _ _ _ _ (World.drew _)
    generalize hwdz402 : World.drew _ = wdz402
    replace hB : Below w.heap.size w wdz402 := by rw [← hwdz402]; exact hB.drew
    replace h3 : At wdz402 w.heap.size (.cells #[.int .i64 p, .int .i64 n, .int .i64 m, .int .i64 k, .slice (some ⟨b, off, none⟩) qs.length c] 28 (0, 0)) := by rw [← hwdz402]; exact h3
    replace h4 : At wdz402 Wz2.heap.size (.cells #[.int .i64 i, .int .i64 j, .int .i64 f] 58 (0, 0)) := by rw [← hwdz402]; exact h4
    replace h6 : At wdz402 Wz8.heap.size (.cells #[.int .i64 0, .int .i64 0, .int .i64 0, .int .i64 0, .slice none 0 0] 28 (0, 0)) := by rw [← hwdz402]; exact h6
    replace h9 : At wdz402 b9 (.cells (u8s (Q1)) 62 (0, 0)) := by rw [← hwdz402]; exact h9
    replace h10 : At wdz402 b10 (.cells (u8s (R1)) 62 (0, 0)) := by rw [← hwdz402]; exact h10
    replace hlz376 : At wdz402 Wz364.heap.size (.cells #[.slice (some ⟨b, off, none⟩) qs.length c] 26 (0, 0)) := by rw [← hwdz402]; exact hlz376
    replace ho : Own wdz402 (Wz373.heap.size) (.slice (some ⟨gm, 0, none⟩) qs.length c3) qs := by rw [← hwdz402]; exact ho.drew
    replace hz398 : At wdz402 Wz377.heap.size (.cells #[.int .i64 p, .int .i64 n, .int .i64 m, .int .i64 k, .slice (some ⟨gm, 0, none⟩) qs.length c3] 28 (0, 0)) := by rw [← hwdz402]; exact hz398
    clear hwdz402
    refine y_yield 0 (some 66) (.pointer (some ⟨Wz377.heap.size, 4, none⟩)) rfl (by kernel_rfl) (by kernel_rfl) (by kernel_rfl) (fun _ _ _ h => h) rfl rfl ⟨hB, hz398, h4, h9, h10⟩ (fun w' h' => exec_fieldAddr 28 _ 4 rfl _ (by kernel_rfl)) ?_
    go_frame
    refine y_yield 1 (some 67) (.slice (some ⟨gm, 0, none⟩) qs.length c3) rfl (by kernel_rfl) (by kernel_rfl) (by kernel_rfl) (fun _ _ _ h => h) rfl rfl ⟨hB, hz398, h4, h9, h10⟩ (fun w' h' => exec_load_one 26 _ rfl Wz377.heap.size 4 rfl (.slice (some ⟨gm, 0, none⟩) qs.length c3) _ Try.underlying26 rfl (h'.2.1.at_ 4)) ?_
    go_frame
    refine y_yield 2 (some 68) (.pointer (some ⟨Wz2.heap.size, 0, none⟩)) rfl (by kernel_rfl) (by kernel_rfl) (by kernel_rfl) (fun _ _ _ h => h) rfl rfl ⟨hB, hz398, h4, h9, h10⟩ (fun w' h' => exec_fieldAddr 58 _ 0 rfl _ (by kernel_rfl)) ?_
    go_frame
    refine y_yield 3 (some 69) (.int .i64 i) rfl (by kernel_rfl) (by kernel_rfl) (by kernel_rfl) (fun _ _ _ h => h) rfl rfl ⟨hB, hz398, h4, h9, h10⟩ (fun w' h' => exec_load_one 2 _ rfl Wz2.heap.size 0 rfl (.int .i64 i) _ Try.underlying2 rfl (h'.2.2.1.at_ 0)) ?_
    go_frame
    refine y_yield 4 (some 70) (.pointer (some ⟨Wz377.heap.size, 4, none⟩)) rfl (by kernel_rfl) (by kernel_rfl) (by kernel_rfl) (fun _ _ _ h => h) rfl rfl ⟨hB, hz398, h4, h9, h10⟩ (fun w' h' => exec_fieldAddr 28 _ 4 rfl _ (by kernel_rfl)) ?_
    go_frame
    refine y_yield 5 (some 71) (.slice (some ⟨gm, 0, none⟩) qs.length c3) rfl (by kernel_rfl) (by kernel_rfl) (by kernel_rfl) (fun _ _ _ h => h) rfl rfl ⟨hB, hz398, h4, h9, h10⟩ (fun w' h' => exec_load_one 26 _ rfl Wz377.heap.size 4 rfl (.slice (some ⟨gm, 0, none⟩) qs.length c3) _ Try.underlying26 rfl (h'.2.1.at_ 4)) ?_
    go_frame
    refine y_yield 6 (some 72) (.pointer (some ⟨Wz2.heap.size, 1, none⟩)) rfl (by kernel_rfl) (by kernel_rfl) (by kernel_rfl) (fun _ _ _ h => h) rfl rfl ⟨hB, hz398, h4, h9, h10⟩ (fun w' h' => exec_fieldAddr 58 _ 1 rfl _ (by kernel_rfl)) ?_
    go_frame
    refine y_yield 7 (some 73) (.int .i64 j) rfl (by kernel_rfl) (by kernel_rfl) (by kernel_rfl) (fun _ _ _ h => h) rfl rfl ⟨hB, hz398, h4, h9, h10⟩ (fun w' h' => exec_load_one 2 _ rfl Wz2.heap.size 1 rfl (.int .i64 j) _ Try.underlying2 rfl (h'.2.2.1.at_ 1)) ?_
    go_frame
    refine y_yield 8 (some 74) (.agg (u8s (Q1))) rfl (by kernel_rfl) (by kernel_rfl) (by kernel_rfl) (fun _ _ _ h => h) rfl rfl ⟨hB, hz398, h4, h9, h10⟩ (fun w' h' => exec_load_all 62 _ rfl b9 rfl _ _ _ h'.2.2.2.1 Try.underlying62 rfl 27 (by kernel_rfl) ((u8s_size _).trans HQ1b.out.len)) ?_
    go_frame
    refine y_yield 10 (some 76) (.agg (u8s (R1))) rfl (by kernel_rfl) (by kernel_rfl) (by kernel_rfl) (fun _ _ _ h => h) rfl rfl ⟨hB, hz398, h4, h9, h10⟩ (fun w' h' => exec_load_all 62 _ rfl b10 rfl _ _ _ h'.2.2.2.2 Try.underlying62 rfl 27 (by kernel_rfl) ((u8s_size _).trans HR1b.out.len)) ?_
    go_frame
    refine y_oper 9 (by kernel_rfl) rfl rfl (fun K' hK' => ?_)
    have lz405 := hB.size
    have lz406 := h3.lt
    have lz407 := h4.lt
    have lz408 := h6.lt
    have lz409 := h9.lt
    have lz410 := h10.lt
    have lz411 := hlz376.lt
    have lz412 : gm < wdz402.heap.size := (ho.lt rfl).2
    have lz413 : Wz373.heap.size ≤ gm := (ho.lt rfl).1
    have lz414 := hz398.lt
    refine wp_call1 (some 75) rfl 66 _ _ rfl (fun args w => by kernel_rfl) _ rfl _ (productOf_c Q1 HQ1b.out _) (fun e Wz403 h => ?_)
    obtain ⟨rfl, bz404⟩ := h
    replace hB := below_after hB bz404
    replace h3 := h3.after bz404
    replace h4 := h4.after bz404
    replace h6 := h6.after bz404
    replace h9 := h9.after bz404
    replace h10 := h10.after bz404
    replace hlz376 := hlz376.after bz404
    replace ho := ho.below bz404
    replace hz398 := hz398.after bz404
    clear bz404
    refine ⟨_, rfl, ?_⟩
    refine hK' _ _ ⟨hB, hz398, h4, h9, h10⟩ (fun _ => trivial) ?_
    clear hK' K'
    go_frame
    refine y_oper 11 (by kernel_rfl) rfl rfl (fun K' hK' => ?_)
    have lz417 := hB.size
    have lz418 := h3.lt
    have lz419 := h4.lt
    have lz420 := h6.lt
    have lz421 := h9.lt
    have lz422 := h10.lt
    have lz423 := hlz376.lt
    have lz424 : gm < Wz403.heap.size := (ho.lt rfl).2
    have lz425 : Wz373.heap.size ≤ gm := (ho.lt rfl).1
    have lz426 := hz398.lt
    refine wp_call1 (some 77) rfl 66 _ _ rfl (fun args w => by kernel_rfl) _ rfl _ (productOf_c R1 HR1b.out _) (fun e Wz415 h => ?_)
    obtain ⟨rfl, bz416⟩ := h
    replace hB := below_after hB bz416
    replace h3 := h3.after bz416
    replace h4 := h4.after bz416
    replace h6 := h6.after bz416
    replace h9 := h9.after bz416
    replace h10 := h10.after bz416
    replace hlz376 := hlz376.after bz416
    replace ho := ho.below bz416
    replace hz398 := hz398.after bz416
    clear bz416
    refine ⟨_, rfl, ?_⟩
    refine hK' _ _ ⟨hB, hz398, h4, h9, h10⟩ (fun _ => trivial) ?_
    clear hK' K'
    go_frame
    refine y_yield 12 (some 78) (.pointer (some ⟨gm, i * 27, none⟩)) rfl (by kernel_rfl) (by kernel_rfl) (by kernel_rfl) (fun _ _ _ h => h) rfl rfl ⟨hB, hz398, h4, h9, h10⟩ (fun w' h' => exec_ix0 _ 52 _ _ rfl gm qs.length c3 i 27 rfl rfl Try.underlying26 (by kernel_rfl) (by omega)) ?_
    go_frame
    refine y_oper 13 (by kernel_rfl) rfl rfl (fun K' hK' => ?_)
    have lz430 := hB.size
    have lz431 := h3.lt
    have lz432 := h4.lt
    have lz433 := h6.lt
    have lz434 := h9.lt
    have lz435 := h10.lt
    have lz436 := hlz376.lt
    have lz437 : gm < Wz415.heap.size := (ho.lt rfl).2
    have lz438 : Wz373.heap.size ≤ gm := (ho.lt rfl).1
    have lz439 := hz398.lt
    refine wp_store_own 52 _ _ rfl rfl gm i rfl (Q1) rfl ho HG27.out (by kernel_rfl) (hi) HQ1b.out.len (fun Wz427 hoz429 pz428 _ => ?_)
    replace hB := pz428.below hB (by omega)
    replace h3 := pz428.other h3 (by omega)
    replace h4 := pz428.other h4 (by omega)
    replace h6 := pz428.other h6 (by omega)
    replace h9 := pz428.other h9 (by omega)
    replace h10 := pz428.other h10 (by omega)
    replace hlz376 := pz428.other hlz376 (by omega)
    replace hz398 := pz428.other hz398 (by omega)
    replace ho := hoz429
    refine hK' _ _ ⟨hB, hz398, h4, h9, h10⟩ (fun h => absurd (by decide) h) ?_
    clear hK' K' pz428 hoz429
    refine y_exec 14 (some 79) (.pointer (some ⟨gm, j * 27, none⟩)) (by kernel_rfl) rfl rfl rfl (exec_ix0 _ 52 _ _ rfl gm qs.length c3 j 27 rfl rfl Try.underlying26 (by kernel_rfl) (by omega)) ⟨hB, hz398, h4, h9, h10⟩ (fun h => absurd (by decide) h) ?_
    go_frame
    refine y_oper 15 (by kernel_rfl) rfl rfl (fun K' hK' => ?_)
    have lz443 := hB.size
    have lz444 := h3.lt
    have lz445 := h4.lt
    have lz446 := h6.lt
    have lz447 := h9.lt
    have lz448 := h10.lt
    have lz449 := hlz376.lt
    have lz450 : gm < Wz427.heap.size := (ho.lt rfl).2
    have lz451 : Wz373.heap.size ≤ gm := (ho.lt rfl).1
    have lz452 := hz398.lt
    refine wp_store_own 52 _ _ rfl rfl gm j rfl (R1) rfl ho (set_len27 HG27.out HQ1b.out.len) (by kernel_rfl) ((by rw [List.length_set]; exact hj)) HR1b.out.len (fun Wz440 hoz442 pz441 _ => ?_)
    replace hB := pz441.below hB (by omega)
    replace h3 := pz441.other h3 (by omega)
    replace h4 := pz441.other h4 (by omega)
    replace h6 := pz441.other h6 (by omega)
    replace h9 := pz441.other h9 (by omega)
    replace h10 := pz441.other h10 (by omega)
    replace hlz376 := pz441.other hlz376 (by omega)
    replace hz398 := pz441.other hz398 (by omega)
    replace ho := hoz442
    refine hK' _ _ ⟨hB, hz398, h4, h9, h10⟩ (fun h => absurd (by decide) h) ?_
    clear hK' K' pz441 hoz442
    refine y_done (by kernel_rfl) ?_ _
    go_wp2_with fail
    go_meet
    exact ⟨hB, h4, h6, hz398, ho.mono (by omega)⟩
  case rest =>
  clear hB h3 h4 h6 h9 h10 hlz376 ho hz398
  obtain ⟨hB, h4, h6, h11, ho⟩ := hcut
  obtain ⟨wc, rfl⟩ := cut_worldF hB
  go_upto_region 7 with (fail)
  refine wp_region_lit ?_
  refine ls_ex (some 80) (.pointer (some ⟨Wz377.heap.size, 4, none⟩)) rfl rfl (exec_fieldAddr 28 _ 4 rfl _ (by kernel_rfl)) ?_
  go_frame
  refine ls_ex (some 81) (.slice (some ⟨gm, 0, none⟩) qs.length c3) rfl rfl (exec_load_one 26 _ rfl Wz377.heap.size 4 rfl (.slice (some ⟨gm, 0, none⟩) qs.length c3) _ Try.underlying26 rfl (h11.at_ 4)) ?_
  go_frame
  refine ls_op rfl (fun K' hK' => ?_)
  have lz456 := hB.size
  have lz457 := h4.lt
  have lz458 := h6.lt
  have lz459 := h11.lt
  have lz460 : gm < wc.heap.size := (ho.lt rfl).2
  have lz461 : w.heap.size ≤ gm := (ho.lt rfl).1
  refine wp_call2 (some 82) rfl 67 _ _ _ rfl (fun args w => by kernel_rfl) _ _ rfl rfl _ (deleteFunc_c _ ho HL2b.out (by rw [List.length_set, List.length_set]; omega)) (fun e Wz453 h => ?_)
  obtain ⟨v6, rfl, noz455, grz454⟩ := h
  rw [HFl.out] at noz455
  obtain ⟨A6, c6, rfl⟩ := Own.rdN2 noz455 (n := N7) HN7.out
  replace hB := below_grown hB grz454 ho (by omega)
  replace h4 := h4.grown grz454 (ho.off h4 (by decide))
  replace h6 := h6.grown grz454 (ho.off h6 (by decide))
  replace h11 := h11.grown grz454 (ho.off h11 (by decide))
  replace ho := noz455
  refine ⟨_, rfl, ?_⟩
  refine hK' _ _ ?_
  clear hK' K' grz454
  go_frame
  refine ls_ex (some 83) (.pointer (some ⟨Wz377.heap.size, 4, none⟩)) rfl rfl (exec_fieldAddr 28 _ 4 rfl _ (by kernel_rfl)) ?_
  go_frame
  refine ls_op rfl (fun K' hK' => ?_)
  refine wp_store_one 26 _ _ rfl rfl Wz377.heap.size 4 rfl (.slice A6 N7 c6) rfl rfl rfl _ _ h11 (by kernel_rfl) (by simp) (fun Wz462 pz463 => ?_)
  replace hB := pz463.below hB (by omega)
  replace h4 := pz463.other h4 (by omega)
  replace h6 := pz463.other h6 (by omega)
  replace ho := ho.put pz463 (ho.off h11 (by decide))
  replace h11 : At Wz462 Wz377.heap.size (.cells #[.int .i64 p, .int .i64 n, .int .i64 m, .int .i64 k, .slice A6 N7 c6] 28 (0, 0)) := pz463.at_
  refine hK' _ _ ?_
  clear hK' K' pz463
  refine wpList_nil ?_
  go_upto_region 8 with (fail)
  refine wp_region_lit ?_
  refine ls_ex (some 84) (.agg #[.int .i64 p, .int .i64 n, .int .i64 m, .int .i64 k, .slice A6 N7 c6]) rfl rfl (exec_load_all 28 _ rfl Wz377.heap.size rfl _ _ _ h11 Try.underlying28 rfl 5 (by kernel_rfl) rfl) ?_
  go_frame
  refine ls_op rfl (fun K' hK' => ?_)
  refine wp_store_all 28 _ _ rfl rfl Wz8.heap.size rfl #[.int .i64 p, .int .i64 n, .int .i64 m, .int .i64 k, .slice A6 N7 c6] rfl _ _ h6 5 (by kernel_rfl) rfl rfl (one5 _ _ _ _ _ _ _) (fun Wz464 pz465 => ?_)
  replace hB := pz465.below hB (by omega)
  replace h4 := pz465.other h4 (by omega)
  replace h11 := pz465.other h11 (by omega)
  replace ho := ho.put pz465 (ho.off h6 (by decide))
  replace h6 : At Wz464 Wz8.heap.size (.cells #[.int .i64 p, .int .i64 n, .int .i64 m, .int .i64 k, .slice A6 N7 c6] 28 (0, 0)) := pz465.at_
  refine hK' _ _ ?_
  clear hK' K' pz465
  refine wpList_nil ?_
  go_wp2_with fail
  refine bodyPost_ret (results_at rfl _ _ Wz8.heap.size _ _ _ rfl h6 Try.underlying28 rfl 5 (by kernel_rfl) rfl) rfl ?_
  refine ⟨_, rfl, ?_, hB⟩
  rw [HFL.out]
  exact ho.mono (by omega)
end Go.Proofs.Ytppenoincihoeaa
