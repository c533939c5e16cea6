/-
  MergeScheme of both sides. (Made by mkmrc.py.)
-/
import Derived.Test.YtopdfblfhdooaaaMrb
import Derived.Test.YtopdfblfhdooaaaTen2
namespace Go.Proofs.Ytopdfblfhdooaaa
open Go.RowKit
set_option maxRecDepth 100000
def bN : Value → Nat
  | .bool true => 1
  | _ => 0
def gCode (p n m k : Int) (qs : List (List Nat)) : Int := if schemeB p n m k qs = true then 0 else 1
def gZ (code x : Int) : Int := if code = 0 then x else 0
def gL (code : Int) (l : List (List Nat)) : List (List Nat) := if code = 0 then l else []
theorem exec_mkf1U {P : Program} {o : Oper} {a : Act} {w : World} (f : FuncId) (x : Operand) (ho : o.op = .makeFunc (.func f) #[] #[x]) (u : Value) (hx : a.eval x = u) : (execOp a.eval o).run P w = .ok (.value (.func (.func f) #[] #[u])) w := by
  subst hx
  unfold execOp
  simp only [ho]
  simp [go_sem]
theorem unK_ex {un : List Nat → List Nat → Option (List Nat)} {qs : List (List Nat)} {i : Nat} (hi : i < qs.length) {d : Nat} (hd : d ≤ qs.length) {X : List (List Nat)} (h : unK un qs i d = some X) : ∃ k q r one, qs[i]? = some q ∧ qs[k]? = some r ∧ un q r = some one ∧ X = stepL qs i k one := by
  induction d with
  | zero => cases h
  | succ d ih =>
    have hk : qs.length - (d + 1) < qs.length := by omega
    simp only [unK] at h
    split at h
    · rename_i one hu
      cases h
      rw [List.getElem?_eq_getElem hi, List.getElem?_eq_getElem hk, Option.getD_some, Option.getD_some] at hu
      exact ⟨_, _, _, one, List.getElem?_eq_getElem hi, List.getElem?_eq_getElem hk, hu, rfl⟩
    · exact ih (by omega) h
theorem unI_ex {un : List Nat → List Nat → Option (List Nat)} {qs : List (List Nat)} {d : Nat} (hd : d ≤ qs.length) {X : List (List Nat)} (h : unI un qs d = some X) : ∃ i k q r one, qs[i]? = some q ∧ qs[k]? = some r ∧ un q r = some one ∧ X = stepL qs i k one := by
  induction d with
  | zero => cases h
  | succ d ih =>
    simp only [unI] at h
    rcases hK : unK un qs (qs.length - (d + 1)) d with _ | Y
    · rw [hK] at h
      exact ih (by omega) h
    · rw [hK] at h
      cases h
      exact ⟨_, unK_ex (by omega) (by omega) hK⟩
theorem unN_facts {un : List Nat → List Nat → Option (List Nat)} {G : List Nat → Prop} {qs X : List (List Nat)} (hG : ∀ q ∈ qs, G q) (hu : ∀ q r one, G q → G r → un q r = some one → Bytes 27 one ∧ (nzB one = true → G one)) (h : unN un qs = some X) : X.length + 1 ≤ qs.length ∧ ∀ q ∈ X, G q := by
  obtain ⟨i, k, q, r, one, hi, hk, h1, rfl⟩ := unI_ex (Nat.le_refl _) h
  have hkl := (List.getElem?_eq_some_iff.1 hk).1
  refine ⟨stepL_len hkl, fun x hx => ?_⟩
  obtain ⟨hn, hx | rfl⟩ := stepL_mem hx
  · exact hG x hx
  · exact (hu q r x (hG q (List.mem_of_getElem? hi)) (hG r (List.mem_of_getElem? hk)) h1).2 hn
theorem unA_facts {un : List Nat → List Nat → Option (List Nat)} {G : List Nat → Prop} (hu : ∀ q r one, G q → G r → un q r = some one → Bytes 27 one ∧ (nzB one = true → G one)) (d : Nat) {qs : List (List Nat)} (hG : ∀ q ∈ qs, G q) : (unA un d qs).length ≤ qs.length ∧ ∀ q ∈ unA un d qs, G q := by
  induction d generalizing qs with
  | zero => exact ⟨Nat.le_refl _, hG⟩
  | succ d ih =>
    simp only [unA]
    rcases h : unN un qs with _ | X
    · exact ⟨Nat.le_refl _, hG⟩
    · have h1 := unN_facts hG hu h
      have h2 := ih h1.2
      exact ⟨by have := h1.1; have := h2.1; simp only; omega, h2.2⟩
theorem mg_good {p : Int} (hP : 2 ≤ p ∧ p ≤ 5) (q r one : List Nat) (hq : Bytes 27 q) (_ : Bytes 27 r) (hu : mgF p q r = some one) : Bytes 27 one ∧ (nzB one = true → Bytes 27 one) := ⟨opF_bytes hq hP hu, fun _ => opF_bytes hq hP hu⟩
theorem mg_res {p n m k : Int} {qs : List (List Nat)} (h : ∀ q ∈ qs, Bytes 27 q) : (∀ r ∈ gL (gCode p n m k qs) (unA (mgF p) qs.length qs), Bytes 27 r) ∧ (gL (gCode p n m k qs) (unA (mgF p) qs.length qs)).length ≤ 1048576 := by
  unfold gL
  split
  · rename_i hc
    unfold gCode at hc
    split at hc
    · rename_i hx
      have hP : 2 ≤ p ∧ p ≤ 5 := prime_le5 (sizesB_parts (schemeB_sizes hx)).1
      have h9 := unA_facts (mg_good hP) qs.length h
      exact ⟨h9.2, by have := schemeB_len hx; have := h9.1; omega⟩
    · cases hc
  · exact ⟨(fun r hr => by cases hr), by simp⟩
theorem schemeForG_c (p n m k : Int) (A : Option Addr) (l c : Nat) (w : World) :
    Calls Try.prog 43 #[.int .i64 p, .agg #[.int .i64 n, .int .i64 m, .int .i64 k], .slice A l c] w fun e w' => e = .returned (.agg #[.int .i64 p, .int .i64 n, .int .i64 m, .int .i64 k, .slice A l c]) ∧ Below w.heap.size w w' := by
  go_enter Try.func43, Try.ntmps43
  go_wp2_with fail
  refine bodyPost_ret (results_at rfl _ _ (w.heap.size + 1) _ _ _ rfl (al2_1 _ _ _) Try.underlying39 rfl 5 (by kernel_rfl) rfl) rfl ?_
  exact ⟨rfl, below2 _ _ _⟩
attribute [local irreducible] wpList
theorem alMt_impl_Scheme {o : Oper} {a : Act} {w : World} (ho : o.op = .alloc 39) : (execOp a.eval o).run Try.prog w = .ok (.value (.pointer (some ⟨w.heap.size, 0, none⟩))) (w.alloc (.cells #[.int .i64 0, .int .i64 0, .int .i64 0, .int .i64 0, .slice none 0 0] 39 (0, 0))) := by
  unfold execOp
  rw [ho]
  kernel_rfl
set_option maxHeartbeats 4000000 in
theorem specMg_a (p n m k : Int) (a9 : Addr) (c : Nat) (qs : List (List Nat)) (w : World) (hR : Rd w (some a9) qs) (hlen : qs.length ≤ 1048576) (hx : schemeB p n m k qs = false) :
    Calls Try.prog 20 #[.agg #[.int .i64 p, .int .i64 n, .int .i64 m, .int .i64 k, .slice (some a9) qs.length c]] w (ResS w (gZ (gCode p n m k qs) p) (gZ (gCode p n m k qs) n) (gZ (gCode p n m k qs) m) (gZ (gCode p n m k qs) k) (gL (gCode p n m k qs) (unA (mgF p) qs.length qs)) (gCode p n m k qs)) := by
  have hB := Below.refl w.heap.size w
  have HC : Hid ((gCode p n m k qs) = 1) := Lib.hid (by unfold gCode; rw [hx]; rfl)
  have HX := Lib.hid hx
  clear hx
  go_enter Try.func20, Try.ntmps20
  go_upto_region 0 with (fail)
  refine wp_region_lit ?_
  refine ls_op rfl (fun K' hK' => ?_)
  have lz1 := hB.size
  refine wp_new (some 1) rfl (exec_box 39 _ rfl (#[.int .i64 p, .int .i64 n, .int .i64 m, .int .i64 k, .slice (some a9) qs.length c]) rfl) (fun Wz2 nnz3 => ?_)
  have bz4 := nnz3.below (Below.refl _ _) (Nat.le_refl _)
  replace hB := below_after hB bz4
  have hz5 : At Wz2 w.heap.size (.cells #[.int .i64 p, .int .i64 n, .int .i64 m, .int .i64 k, .slice (some a9) qs.length c] 39 (0, 0)) := nnz3.at_
  refine hK' _ _ ?_
  clear hK' K' nnz3 bz4
  go_frame
  refine ls_op rfl (fun K' hK' => ?_)
  have lz6 := hB.size
  have lz7 := hz5.lt
  refine wp_new (some 2) rfl (alMt_impl_Scheme rfl) (fun Wz8 nnz9 => ?_)
  have bz10 := nnz9.below (Below.refl _ _) (Nat.le_refl _)
  replace hB := below_after hB bz10
  replace hz5 := hz5.after bz10
  have hz11 : At Wz8 Wz2.heap.size (.cells #[.int .i64 0, .int .i64 0, .int .i64 0, .int .i64 0, .slice none 0 0] 39 (0, 0)) := nnz9.at_
  refine hK' _ _ ?_
  clear hK' K' nnz9 bz10
  go_frame
  refine ls_ex (some 3) (.int .i64 0) rfl rfl (exec_assign _ rfl (.int .i64 0) rfl) ?_
  go_frame
  refine wpList_nil ?_
  go_upto_region 1 with (fail)
  refine wp_region_lit ?_
  refine ls_ex (some 9) (.agg #[.int .i64 p, .int .i64 n, .int .i64 m, .int .i64 k, .slice (some a9) qs.length c]) rfl rfl (exec_load_all 39 _ rfl w.heap.size rfl _ _ _ hz5 Try.underlying39 rfl 5 (by kernel_rfl) rfl) ?_
  go_frame
  refine ls_op rfl (fun K' hK' => ?_)
  have lz14 := hB.size
  have lz15 := hz5.lt
  have lz16 := hz11.lt
  refine wp_call1 (some 10) rfl 36 _ _ rfl (fun args w => by kernel_rfl) _ rfl _ (l01Is_c p n m k (some a9) c qs _ (hR.keep hB) hlen) (fun e Wz12 h => ?_)
  obtain ⟨rfl, bz13⟩ := h
  replace hB := below_after hB bz13
  replace hz5 := hz5.after bz13
  replace hz11 := hz11.after bz13
  rw [HX.out]
  clear bz13
  refine ⟨_, rfl, ?_⟩
  refine hK' _ _ ?_
  clear hK' K'
  go_frame
  refine ls_ex (some 11) (.bool true) rfl rfl (exec_not _ _ rfl false rfl) ?_
  go_frame
  refine wpList_nil ?_
  go_upto_region 2 with (fail)
  refine wp_region_lit ?_
  refine ls_ex (some 12) (.agg #[.int .i64 0, .int .i64 0, .int .i64 0, .int .i64 0, .slice none 0 0]) rfl rfl (exec_build_nil 39 rfl _ (by kernel_rfl)) ?_
  go_frame
  refine ls_op rfl (fun K' hK' => ?_)
  refine wp_store_all 39 _ _ rfl rfl Wz2.heap.size rfl #[.int .i64 0, .int .i64 0, .int .i64 0, .int .i64 0, .slice none 0 0] rfl _ _ hz11 5 (by kernel_rfl) rfl rfl (one5 _ _ _ _ _ _ _) (fun Wz17 pz18 => ?_)
  replace hB := pz18.below hB (by omega)
  replace hz5 := pz18.other hz5 (by omega)
  replace hz11 : At Wz17 Wz2.heap.size (.cells #[.int .i64 0, .int .i64 0, .int .i64 0, .int .i64 0, .slice none 0 0] 39 (0, 0)) := pz18.at_
  refine hK' _ _ ?_
  clear hK' K' pz18
  refine ls_ex (some 3) (.int .i64 1) rfl rfl (exec_assign _ rfl (.int .i64 1) rfl) ?_
  go_frame
  refine wpList_nil ?_
  go_wp2_with fail
  refine bodyPost_ret (results_at2 rfl _ _ Wz2.heap.size _ _ _ rfl _ rfl hz11 Try.underlying39 rfl 5 (by kernel_rfl) rfl) rfl ?_
  unfold ResS gZ gL
  rw [HC.out]
  exact ⟨_, rfl, Own.nil _ _, hB⟩
set_option maxHeartbeats 6400000 in
theorem specMg_y (p n m k : Int) (a9 : Addr) (c : Nat) (qs : List (List Nat)) (w : World) (hR : Rd w (some a9) qs) (hlen : qs.length ≤ 1048576) (hx : schemeB p n m k qs = true) :
    Calls Try.prog 20 #[.agg #[.int .i64 p, .int .i64 n, .int .i64 m, .int .i64 k, .slice (some a9) qs.length c]] w (ResS w (gZ (gCode p n m k qs) p) (gZ (gCode p n m k qs) n) (gZ (gCode p n m k qs) m) (gZ (gCode p n m k qs) k) (gL (gCode p n m k qs) (unA (mgF p) qs.length qs)) (gCode p n m k qs)) := by
  have hB := Below.refl w.heap.size w
  have HC : Hid ((gCode p n m k qs) = 0) := Lib.hid (by unfold gCode; rw [hx]; rfl)
  have hP : 2 ≤ p ∧ p ≤ 5 := prime_le5 (sizesB_parts (schemeB_sizes hx)).1
  have hl30 := schemeB_len hx
  have HX := Lib.hid hx
  have HGq := Lib.hid hR.good
  clear hx
  go_enter Try.func20, Try.ntmps20
  go_upto_region 0 with (fail)
  refine wp_region_lit ?_
  refine ls_op rfl (fun K' hK' => ?_)
  have lz1 := hB.size
  refine wp_new (some 1) rfl (exec_box 39 _ rfl (#[.int .i64 p, .int .i64 n, .int .i64 m, .int .i64 k, .slice (some a9) qs.length c]) rfl) (fun Wz2 nnz3 => ?_)
  have bz4 := nnz3.below (Below.refl _ _) (Nat.le_refl _)
  replace hB := below_after hB bz4
  have hz5 : At Wz2 w.heap.size (.cells #[.int .i64 p, .int .i64 n, .int .i64 m, .int .i64 k, .slice (some a9) qs.length c] 39 (0, 0)) := nnz3.at_
  refine hK' _ _ ?_
  clear hK' K' nnz3 bz4
  go_frame
  refine ls_op rfl (fun K' hK' => ?_)
  have lz6 := hB.size
  have lz7 := hz5.lt
  refine wp_new (some 2) rfl (alMt_impl_Scheme rfl) (fun Wz8 nnz9 => ?_)
  have bz10 := nnz9.below (Below.refl _ _) (Nat.le_refl _)
  replace hB := below_after hB bz10
  replace hz5 := hz5.after bz10
  have hz11 : At Wz8 Wz2.heap.size (.cells #[.int .i64 0, .int .i64 0, .int .i64 0, .int .i64 0, .slice none 0 0] 39 (0, 0)) := nnz9.at_
  refine hK' _ _ ?_
  clear hK' K' nnz9 bz10
  go_frame
  refine ls_ex (some 3) (.int .i64 0) rfl rfl (exec_assign _ rfl (.int .i64 0) rfl) ?_
  go_frame
  refine wpList_nil ?_
  go_upto_region 1 with (fail)
  refine wp_region_lit ?_
  refine ls_ex (some 9) (.agg #[.int .i64 p, .int .i64 n, .int .i64 m, .int .i64 k, .slice (some a9) qs.length c]) rfl rfl (exec_load_all 39 _ rfl w.heap.size rfl _ _ _ hz5 Try.underlying39 rfl 5 (by kernel_rfl) rfl) ?_
  go_frame
  refine ls_op rfl (fun K' hK' => ?_)
  have lz14 := hB.size
  have lz15 := hz5.lt
  have lz16 := hz11.lt
  refine wp_call1 (some 10) rfl 36 _ _ rfl (fun args w => by kernel_rfl) _ rfl _ (l01Is_c p n m k (some a9) c qs _ (hR.keep hB) hlen) (fun e Wz12 h => ?_)
  obtain ⟨rfl, bz13⟩ := h
  replace hB := below_after hB bz13
  replace hz5 := hz5.after bz13
  replace hz11 := hz11.after bz13
  rw [HX.out]
  clear bz13
  refine ⟨_, rfl, ?_⟩
  refine hK' _ _ ?_
  clear hK' K'
  go_frame
  refine ls_ex (some 11) (.bool false) rfl rfl (exec_not _ _ rfl true rfl) ?_
  go_frame
  refine wpList_nil ?_
  go_upto_region 3 with (fail)
  refine wp_region_lit ?_
  refine ls_op rfl (fun K' hK' => ?_)
  have lz20 := hB.size
  have lz21 := hz5.lt
  have lz22 := hz11.lt
  refine wp_new (some 13) rfl (exec_bs0 rfl) (fun Wz17 nnz18 => ?_)
  have bz19 := nnz18.below (Below.refl _ _) (Nat.le_refl _)
  replace hB := below_after hB bz19
  replace hz5 := hz5.after bz19
  replace hz11 := hz11.after bz19
  have ho : Own Wz17 w.heap.size (.slice (some ⟨Wz12.heap.size, 0, none⟩) 0 0) [] := (own_bs0 nnz18).mono (by have := hB.size; omega)
  refine hK' _ _ ?_
  clear hK' K' nnz18 bz19
  go_frame
  refine ls_ex (some 14) (.pointer (some ⟨w.heap.size, 4, none⟩)) rfl rfl (exec_fieldAddr 39 _ 4 rfl _ (by kernel_rfl)) ?_
  go_frame
  refine ls_ex (some 15) (.slice (some a9) qs.length c) rfl rfl (exec_load_one 26 _ rfl w.heap.size 4 rfl (.slice (some a9) qs.length c) _ Try.underlying26 rfl (hz5.at_ 4)) ?_
  go_frame
  refine ls_op rfl (fun K' hK' => ?_)
  have lz26 := hB.size
  have lz27 := hz5.lt
  have lz28 := hz11.lt
  refine wp_append_rdN (some 16) rfl _ _ rfl (.slice (some ⟨Wz12.heap.size, 0, none⟩) 0 0) [] qs qs.length rfl rfl ho (some a9) c rfl (hR.keep hB) (fun h => by cases h) (by simp; omega) (by omega) (fun v9 Wz23 noz25 grz24 => ?_)
  rw [List.nil_append] at noz25
  obtain ⟨A9, c9, rfl⟩ := Own.rdN2 noz25 (n := qs.length) rfl
  replace hB := below_grown hB grz24 ho (by omega)
  replace hz5 := hz5.grown grz24 (ho.off hz5 (by decide))
  replace hz11 := hz11.grown grz24 (ho.off hz11 (by decide))
  replace ho := noz25
  refine hK' _ _ ?_
  clear hK' K' grz24
  go_frame
  refine ls_ex (some 4) (.slice A9 qs.length c9) rfl rfl (exec_assign _ rfl (.slice A9 qs.length c9) rfl) ?_
  go_frame
  refine ls_ex (some 5) (.bool true) rfl rfl (exec_assign _ rfl (.bool true) rfl) ?_
  go_frame
  refine wpList_nil ?_
  go_wp2_with fail
  go_loopw [4, 5] (fun s4 s5 wr => ∃ (d : Nat) (cur : List (List Nat)) (v : Value) (b9 : Bool), v = s4 ∧ s5 = .bool b9 ∧ cur.length ≤ d ∧ d ≤ 30 ∧ Hid (unA (mgF p) d cur = unA (mgF p) qs.length qs) ∧ Hid (∀ q ∈ cur, Bytes 27 q) ∧ (b9 = false → unN (mgF p) cur = none) ∧ Below w.heap.size w wr ∧ At wr w.heap.size (.cells #[.int .i64 p, .int .i64 n, .int .i64 m, .int .i64 k, .slice (some a9) qs.length c] 39 (0, 0)) ∧ At wr Wz2.heap.size (.cells #[.int .i64 0, .int .i64 0, .int .i64 0, .int .i64 0, .slice none 0 0] 39 (0, 0)) ∧ Own wr w.heap.size (v) (cur)) (fun s4 s5 _ => lenV s4 + bN s5)
  case atStart => exact ⟨qs.length, qs, _, true, rfl, rfl, Nat.le_refl _, hl30, Lib.hid rfl, HGq, (fun h => by cases h), hB, hz5, hz11, ho⟩
  case round =>
    clear hB hz5 hz11 ho
    obtain ⟨d, cur, v, b9, rfl, rfl, hd, hd2, HA, HCb, hbn, hB, h1, h2, ho⟩ := hrel
    obtain ⟨L, hL⟩ : ∃ z9, cur.length = z9 := ⟨_, rfl⟩
    obtain ⟨A9, c9, rfl⟩ := Own.rdN2 ho hL
    have HL := Lib.hid hL
    rw [hL] at hd
    clear hL
    rcases b9 with _ | _
    · have HN := Lib.hid (hbn rfl)
      clear hbn
      go_upto_region 4 with (fail)
      refine wp_region_lit ?_
      refine ls_ex (some 17) (.bool false) rfl rfl (exec_move _ rfl (.bool false) rfl) ?_
      go_frame
      refine wpList_nil ?_
      go_upto_region 8 with (fail)
      refine wp_region_lit ?_
      refine ls_ex (some 27) (.agg #[.int .i64 p, .int .i64 n, .int .i64 m, .int .i64 k, .slice (some a9) qs.length c]) rfl rfl (exec_load_all 39 _ rfl w.heap.size rfl _ _ _ h1 Try.underlying39 rfl 5 (by kernel_rfl) rfl) ?_
      go_frame
      refine ls_op rfl (fun K' hK' => ?_)
      have lz31 := hB.size
      have lz32 := h1.lt
      have lz33 := h2.lt
      refine wp_call1 (some 28) rfl 45 _ _ rfl (fun args w => by kernel_rfl) _ rfl _ (l01Empty_c p n m k _ _) (fun e Wz29 h => ?_)
      obtain ⟨v5, rfl, ho5, bz30⟩ := h
      replace hB := below_after hB bz30
      replace h1 := h1.after bz30
      replace h2 := h2.after bz30
      replace ho := ho.below bz30
      obtain ⟨A5, c5, rfl⟩ := Own.rdN2 ho5 (n := 0) rfl
      clear ho5
      clear bz30
      refine ⟨_, rfl, ?_⟩
      refine hK' _ _ ?_
      clear hK' K'
      go_frame
      refine ls_op rfl (fun K' hK' => ?_)
      have lz34 := hB.size
      have lz35 := h1.lt
      have lz36 := h2.lt
      have naz41 := ho.away_new
      refine wp_new (some 8) rfl (alMt_impl_Scheme rfl) (fun Wz37 nnz38 => ?_)
      have bz39 := nnz38.below (Below.refl _ _) (Nat.le_refl _)
      replace hB := below_after hB bz39
      replace h1 := h1.after bz39
      replace h2 := h2.after bz39
      replace ho := ho.below bz39
      have hz40 : At Wz37 Wz29.heap.size (.cells #[.int .i64 0, .int .i64 0, .int .i64 0, .int .i64 0, .slice none 0 0] 39 (0, 0)) := nnz38.at_
      refine hK' _ _ ?_
      clear hK' K' nnz38 bz39
      go_frame
      refine ls_op rfl (fun K' hK' => ?_)
      refine wp_store_all 39 _ _ rfl rfl Wz29.heap.size rfl #[.int .i64 p, .int .i64 n, .int .i64 m, .int .i64 k, .slice A5 0 c5] rfl _ _ hz40 5 (by kernel_rfl) rfl rfl (one5 _ _ _ _ _ _ _) (fun Wz42 pz43 => ?_)
      replace hB := pz43.below hB (by omega)
      replace h1 := pz43.other h1 (by omega)
      replace h2 := pz43.other h2 (by omega)
      replace ho := ho.put pz43 naz41
      replace hz40 : At Wz42 Wz29.heap.size (.cells #[.int .i64 p, .int .i64 n, .int .i64 m, .int .i64 k, .slice A5 0 c5] 39 (0, 0)) := pz43.at_
      refine hK' _ _ ?_
      clear hK' K' pz43
      refine wpList_nil ?_
      go_upto_region 9 with (fail)
      refine wp_region_lit ?_
      refine ls_ex (some 29) (.slice A9 L c9) rfl rfl (exec_move _ rfl (.slice A9 L c9) rfl) ?_
      go_frame
      refine ls_ex (some 30) (.pointer (some ⟨Wz29.heap.size, 4, none⟩)) rfl rfl (exec_fieldAddr 39 _ 4 rfl _ (by kernel_rfl)) ?_
      go_frame
      refine ls_op rfl (fun K' hK' => ?_)
      refine wp_store_one 26 _ _ rfl rfl Wz29.heap.size 4 rfl (.slice A9 L c9) rfl rfl rfl _ _ hz40 (by kernel_rfl) (by simp) (fun Wz44 pz45 => ?_)
      replace hB := pz45.below hB (by omega)
      replace h1 := pz45.other h1 (by omega)
      replace h2 := pz45.other h2 (by omega)
      replace ho := ho.put pz45 naz41
      replace hz40 : At Wz44 Wz29.heap.size (.cells #[.int .i64 p, .int .i64 n, .int .i64 m, .int .i64 k, .slice A9 L c9] 39 (0, 0)) := pz45.at_
      refine hK' _ _ ?_
      clear hK' K' pz45
      refine wpList_nil ?_
      go_upto_region 10 with (fail)
      refine wp_region_lit ?_
      refine ls_ex (some 31) (.agg #[.int .i64 p, .int .i64 n, .int .i64 m, .int .i64 k, .slice A9 L c9]) rfl rfl (exec_load_all 39 _ rfl Wz29.heap.size rfl _ _ _ hz40 Try.underlying39 rfl 5 (by kernel_rfl) rfl) ?_
      go_frame
      refine ls_op rfl (fun K' hK' => ?_)
      refine wp_store_all 39 _ _ rfl rfl Wz2.heap.size rfl #[.int .i64 p, .int .i64 n, .int .i64 m, .int .i64 k, .slice A9 L c9] rfl _ _ h2 5 (by kernel_rfl) rfl rfl (one5 _ _ _ _ _ _ _) (fun Wz46 pz47 => ?_)
      replace hB := pz47.below hB (by omega)
      replace h1 := pz47.other h1 (by omega)
      replace ho := ho.put pz47 (ho.off h2 (by decide))
      replace hz40 := pz47.other hz40 (by omega)
      replace h2 : At Wz46 Wz2.heap.size (.cells #[.int .i64 p, .int .i64 n, .int .i64 m, .int .i64 k, .slice A9 L c9] 39 (0, 0)) := pz47.at_
      refine hK' _ _ ?_
      clear hK' K' pz47
      refine ls_ex (some 3) (.int .i64 0) rfl rfl (exec_assign _ rfl (.int .i64 0) rfl) ?_
      go_frame
      refine wpList_nil ?_
      go_wp2_with fail
      refine bodyPost_ret (results_at2 rfl _ _ Wz2.heap.size _ _ _ rfl _ rfl h2 Try.underlying39 rfl 5 (by kernel_rfl) rfl) rfl ?_
      unfold ResS gZ gL
      rw [HC.out]
      exact ⟨_, rfl, by rw [← HA.out, unA_none HN.out]; exact ho.mono (by omega), hB⟩
    · clear hbn
      rcases hn : unN (mgF p) cur with _ | X
      · have HNm := Lib.hid hn
        clear hn
        go_upto_region 4 with (fail)
        refine wp_region_lit ?_
        refine ls_ex (some 17) (.bool true) rfl rfl (exec_move _ rfl (.bool true) rfl) ?_
        go_frame
        refine wpList_nil ?_
        go_upto_region 5 with (fail)
        refine wp_region_lit ?_
        refine ls_ex (some 19) (.pointer (some ⟨w.heap.size, 0, none⟩)) rfl rfl (exec_fieldAddr 39 _ 0 rfl _ (by kernel_rfl)) ?_
        go_frame
        refine ls_ex (some 20) (.int .i64 p) rfl rfl (exec_load_one 2 _ rfl w.heap.size 0 rfl (.int .i64 p) _ Try.underlying2 rfl (h1.at_ 0)) ?_
        go_frame
        refine ls_ex (some 21) (.slice A9 L c9) rfl rfl (exec_move _ rfl (.slice A9 L c9) rfl) ?_
        go_frame
        refine ls_op rfl (fun K' hK' => ?_)
        have lz50 := hB.size
        have lz51 := h1.lt
        have lz52 := h2.lt
        refine wp_call2 (some 22) rfl 44 _ _ _ rfl (fun args w => by kernel_rfl) _ _ rfl rfl _ (l10Merge_none p w.heap.size A9 c9 L cur _ hP ho HCb.out (by omega) HL.out HNm.out) (fun e Wz48 h => ?_)
        obtain ⟨rfl, bz49⟩ := h
        replace hB := below_after hB bz49
        replace h1 := h1.after bz49
        replace h2 := h2.after bz49
        replace ho := ho.below bz49
        clear bz49
        refine ⟨_, rfl, ?_⟩
        refine hK' _ _ ?_
        clear hK' K'
        go_frame
        refine ls_ex (some 18) (.tuple #[.slice A9 L c9, .bool false]) rfl rfl (exec_move _ rfl (.tuple #[.slice A9 L c9, .bool false]) rfl) ?_
        go_frame
        refine ls_ex (some 23) (.slice A9 L c9) rfl rfl (exec_extract _ 0 rfl #[.slice A9 L c9, .bool false] (by rfl) _ rfl) ?_
        go_frame
        refine ls_ex (some 24) (.bool false) rfl rfl (exec_extract _ 1 rfl #[.slice A9 L c9, .bool false] (by rfl) _ rfl) ?_
        go_frame
        refine ls_ex (some 6) (.slice A9 L c9) rfl rfl (exec_assign _ rfl (.slice A9 L c9) rfl) ?_
        go_frame
        refine ls_ex (some 7) (.bool false) rfl rfl (exec_assign _ rfl (.bool false) rfl) ?_
        go_frame
        refine wpList_nil ?_
        go_upto_region 6 with (fail)
        refine wp_region_lit ?_
        refine ls_ex (some 25) (.slice A9 L c9) rfl rfl (exec_move _ rfl (.slice A9 L c9) rfl) ?_
        go_frame
        refine ls_ex (some 4) (.slice A9 L c9) rfl rfl (exec_assign _ rfl (.slice A9 L c9) rfl) ?_
        go_frame
        refine wpList_nil ?_
        go_upto_region 7 with (fail)
        refine wp_region_lit ?_
        refine ls_ex (some 26) (.bool false) rfl rfl (exec_move _ rfl (.bool false) rfl) ?_
        go_frame
        refine ls_ex (some 5) (.bool false) rfl rfl (exec_assign _ rfl (.bool false) rfl) ?_
        go_frame
        refine wpList_nil ?_
        go_wp2_with fail
        go_roundw
        case rel => exact ⟨d, cur, _, false, rfl, rfl, by rw [HL.out]; omega, hd2, HA, HCb, fun _ => HNm.out, hB, h1, h2, ho⟩
        case measure => simp [lenV, bN]
      · have HNm := Lib.hid hn
        have hX := unN_facts (G := Bytes 27) HCb.out (fun q r one hq _ hu => ⟨opF_bytes hq hP hu, fun _ => opF_bytes hq hP hu⟩) hn
        clear hn
        obtain ⟨d9, hd9, hA9, hl9⟩ := unA_some HNm.out hX.1 (by rw [HL.out]; exact hd)
        have hX1 := hX.1
        have HXb := Lib.hid hX.2
        obtain ⟨N8, hN8⟩ : ∃ z9, X.length = z9 := ⟨_, rfl⟩
        rw [hN8, HL.out] at hX1
        rw [hN8] at hl9
        have HA9 : Hid (unA (mgF p) d9 X = unA (mgF p) qs.length qs) := Lib.hid (by rw [← hA9]; exact HA.out)
        have HN8 := Lib.hid hN8
        have hd9b : d9 ≤ d := by omega
        clear hN8 hA9 hd9 hX
        go_upto_region 4 with (fail)
        refine wp_region_lit ?_
        refine ls_ex (some 17) (.bool true) rfl rfl (exec_move _ rfl (.bool true) rfl) ?_
        go_frame
        refine wpList_nil ?_
        go_upto_region 5 with (fail)
        refine wp_region_lit ?_
        refine ls_ex (some 19) (.pointer (some ⟨w.heap.size, 0, none⟩)) rfl rfl (exec_fieldAddr 39 _ 0 rfl _ (by kernel_rfl)) ?_
        go_frame
        refine ls_ex (some 20) (.int .i64 p) rfl rfl (exec_load_one 2 _ rfl w.heap.size 0 rfl (.int .i64 p) _ Try.underlying2 rfl (h1.at_ 0)) ?_
        go_frame
        refine ls_ex (some 21) (.slice A9 L c9) rfl rfl (exec_move _ rfl (.slice A9 L c9) rfl) ?_
        go_frame
        refine ls_op rfl (fun K' hK' => ?_)
        have lz55 := hB.size
        have lz56 := h1.lt
        have lz57 := h2.lt
        have lo9 := hB.size
        refine wp_call2 (some 22) rfl 44 _ _ _ rfl (fun args w => by kernel_rfl) _ _ rfl rfl _ (l10Merge_some p w.heap.size A9 c9 L cur _ hP ho HCb.out (by omega) HL.out X HNm.out) (fun e Wz53 h => ?_)
        obtain ⟨v8, rfl, ho8, bz54⟩ := h
        replace hB := below_after hB bz54
        replace h1 := h1.after bz54
        replace h2 := h2.after bz54
        replace ho := ho.below bz54
        obtain ⟨A8, c8, rfl⟩ := Own.rdN2 ho8 (n := N8) HN8.out
        replace ho := ho8.mono lo9
        clear ho8
        clear bz54
        refine ⟨_, rfl, ?_⟩
        refine hK' _ _ ?_
        clear hK' K'
        go_frame
        refine ls_ex (some 18) (.tuple #[.slice A8 N8 c8, .bool true]) rfl rfl (exec_move _ rfl (.tuple #[.slice A8 N8 c8, .bool true]) rfl) ?_
        go_frame
        refine ls_ex (some 23) (.slice A8 N8 c8) rfl rfl (exec_extract _ 0 rfl #[.slice A8 N8 c8, .bool true] (by rfl) _ rfl) ?_
        go_frame
        refine ls_ex (some 24) (.bool true) rfl rfl (exec_extract _ 1 rfl #[.slice A8 N8 c8, .bool true] (by rfl) _ rfl) ?_
        go_frame
        refine ls_ex (some 6) (.slice A8 N8 c8) rfl rfl (exec_assign _ rfl (.slice A8 N8 c8) rfl) ?_
        go_frame
        refine ls_ex (some 7) (.bool true) rfl rfl (exec_assign _ rfl (.bool true) rfl) ?_
        go_frame
        refine wpList_nil ?_
        go_upto_region 6 with (fail)
        refine wp_region_lit ?_
        refine ls_ex (some 25) (.slice A8 N8 c8) rfl rfl (exec_move _ rfl (.slice A8 N8 c8) rfl) ?_
        go_frame
        refine ls_ex (some 4) (.slice A8 N8 c8) rfl rfl (exec_assign _ rfl (.slice A8 N8 c8) rfl) ?_
        go_frame
        refine wpList_nil ?_
        go_upto_region 7 with (fail)
        refine wp_region_lit ?_
        refine ls_ex (some 26) (.bool true) rfl rfl (exec_move _ rfl (.bool true) rfl) ?_
        go_frame
        refine ls_ex (some 5) (.bool true) rfl rfl (exec_assign _ rfl (.bool true) rfl) ?_
        go_frame
        refine wpList_nil ?_
        go_wp2_with fail
        go_roundw
        case rel => exact ⟨d9, X, _, true, rfl, rfl, by rw [HN8.out]; omega, by omega, HA9, HXb, (fun h => by cases h), hB, h1, h2, ho⟩
        case measure => simp [lenV, bN]; omega
theorem specMergeScheme_c (p n m k : Int) (a9 : Addr) (c : Nat) (qs : List (List Nat)) (w : World) (hR : Rd w (some a9) qs) (hlen : qs.length ≤ 1048576) : Calls Try.prog 20 #[.agg #[.int .i64 p, .int .i64 n, .int .i64 m, .int .i64 k, .slice (some a9) qs.length c]] w (ResS w (gZ (gCode p n m k qs) p) (gZ (gCode p n m k qs) n) (gZ (gCode p n m k qs) m) (gZ (gCode p n m k qs) k) (gL (gCode p n m k qs) (unA (mgF p) qs.length qs)) (gCode p n m k qs)) := by
  rcases Bool.eq_false_or_eq_true (schemeB p n m k qs) with hx | hx
  · exact specMg_y p n m k a9 c qs w hR hlen hx
  · exact specMg_a p n m k a9 c qs w hR hlen hx
set_option maxHeartbeats 4000000 in
theorem implMg_a (p n m k : Int) (a9 : Addr) (c : Nat) (qs : List (List Nat)) (w : World) (hR : Rd w (some a9) qs) (hlen : qs.length ≤ 1048576) (hx : schemeB p n m k qs = false) :
    Calls Try.prog 21 #[.agg #[.int .i64 p, .int .i64 n, .int .i64 m, .int .i64 k, .slice (some a9) qs.length c]] w (ResS w (gZ (gCode p n m k qs) p) (gZ (gCode p n m k qs) n) (gZ (gCode p n m k qs) m) (gZ (gCode p n m k qs) k) (gL (gCode p n m k qs) (unA (mgF p) qs.length qs)) (gCode p n m k qs)) := by
  have hB := Below.refl w.heap.size w
  have HC : Hid ((gCode p n m k qs) = 1) := Lib.hid (by unfold gCode; rw [hx]; rfl)
  have HX := Lib.hid hx
  clear hx
  go_enter Try.func21, Try.ntmps21
  go_upto_region 0 with (fail)
  refine wp_region_lit ?_
  refine ls_op rfl (fun K' hK' => ?_)
  have lz1 := hB.size
  refine wp_new (some 1) rfl (exec_box 39 _ rfl (#[.int .i64 p, .int .i64 n, .int .i64 m, .int .i64 k, .slice (some a9) qs.length c]) rfl) (fun Wz2 nnz3 => ?_)
  have bz4 := nnz3.below (Below.refl _ _) (Nat.le_refl _)
  replace hB := below_after hB bz4
  have hz5 : At Wz2 w.heap.size (.cells #[.int .i64 p, .int .i64 n, .int .i64 m, .int .i64 k, .slice (some a9) qs.length c] 39 (0, 0)) := nnz3.at_
  refine hK' _ _ ?_
  clear hK' K' nnz3 bz4
  go_frame
  refine ls_op rfl (fun K' hK' => ?_)
  have lz6 := hB.size
  have lz7 := hz5.lt
  refine wp_new (some 2) rfl (alMt_impl_Scheme rfl) (fun Wz8 nnz9 => ?_)
  have bz10 := nnz9.below (Below.refl _ _) (Nat.le_refl _)
  replace hB := below_after hB bz10
  replace hz5 := hz5.after bz10
  have hz11 : At Wz8 Wz2.heap.size (.cells #[.int .i64 0, .int .i64 0, .int .i64 0, .int .i64 0, .slice none 0 0] 39 (0, 0)) := nnz9.at_
  refine hK' _ _ ?_
  clear hK' K' nnz9 bz10
  go_frame
  refine ls_ex (some 3) (.int .i64 0) rfl rfl (exec_assign _ rfl (.int .i64 0) rfl) ?_
  go_frame
  refine wpList_nil ?_
  go_upto_region 1 with (fail)
  refine wp_region_lit ?_
  refine ls_ex (some 5) (.agg #[.int .i64 p, .int .i64 n, .int .i64 m, .int .i64 k, .slice (some a9) qs.length c]) rfl rfl (exec_load_all 39 _ rfl w.heap.size rfl _ _ _ hz5 Try.underlying39 rfl 5 (by kernel_rfl) rfl) ?_
  go_frame
  refine ls_op rfl (fun K' hK' => ?_)
  have lz14 := hB.size
  have lz15 := hz5.lt
  have lz16 := hz11.lt
  refine wp_call1 (some 6) rfl 38 _ _ rfl (fun args w => by kernel_rfl) _ rfl _ (implIsScheme_c p n m k (some a9) c qs _ (hR.keep hB) hlen) (fun e Wz12 h => ?_)
  obtain ⟨rfl, bz13⟩ := h
  replace hB := below_after hB bz13
  replace hz5 := hz5.after bz13
  replace hz11 := hz11.after bz13
  rw [HX.out]
  clear bz13
  refine ⟨_, rfl, ?_⟩
  refine hK' _ _ ?_
  clear hK' K'
  go_frame
  refine ls_ex (some 7) (.bool true) rfl rfl (exec_not _ _ rfl false rfl) ?_
  go_frame
  refine wpList_nil ?_
  go_upto_region 2 with (fail)
  refine wp_region_lit ?_
  refine ls_ex (some 8) (.agg #[.int .i64 0, .int .i64 0, .int .i64 0, .int .i64 0, .slice none 0 0]) rfl rfl (exec_build_nil 39 rfl _ (by kernel_rfl)) ?_
  go_frame
  refine ls_op rfl (fun K' hK' => ?_)
  refine wp_store_all 39 _ _ rfl rfl Wz2.heap.size rfl #[.int .i64 0, .int .i64 0, .int .i64 0, .int .i64 0, .slice none 0 0] rfl _ _ hz11 5 (by kernel_rfl) rfl rfl (one5 _ _ _ _ _ _ _) (fun Wz17 pz18 => ?_)
  replace hB := pz18.below hB (by omega)
  replace hz5 := pz18.other hz5 (by omega)
  replace hz11 : At Wz17 Wz2.heap.size (.cells #[.int .i64 0, .int .i64 0, .int .i64 0, .int .i64 0, .slice none 0 0] 39 (0, 0)) := pz18.at_
  refine hK' _ _ ?_
  clear hK' K' pz18
  refine ls_ex (some 3) (.int .i64 1) rfl rfl (exec_assign _ rfl (.int .i64 1) rfl) ?_
  go_frame
  refine wpList_nil ?_
  go_wp2_with fail
  refine bodyPost_ret (results_at2 rfl _ _ Wz2.heap.size _ _ _ rfl _ rfl hz11 Try.underlying39 rfl 5 (by kernel_rfl) rfl) rfl ?_
  unfold ResS gZ gL
  rw [HC.out]
  exact ⟨_, rfl, Own.nil _ _, hB⟩
set_option maxHeartbeats 6400000 in
theorem implMg_y (p n m k : Int) (a9 : Addr) (c : Nat) (qs : List (List Nat)) (w : World) (hR : Rd w (some a9) qs) (hlen : qs.length ≤ 1048576) (hx : schemeB p n m k qs = true) :
    Calls Try.prog 21 #[.agg #[.int .i64 p, .int .i64 n, .int .i64 m, .int .i64 k, .slice (some a9) qs.length c]] w (ResS w (gZ (gCode p n m k qs) p) (gZ (gCode p n m k qs) n) (gZ (gCode p n m k qs) m) (gZ (gCode p n m k qs) k) (gL (gCode p n m k qs) (unA (mgF p) qs.length qs)) (gCode p n m k qs)) := by
  have hB := Below.refl w.heap.size w
  have HC : Hid ((gCode p n m k qs) = 0) := Lib.hid (by unfold gCode; rw [hx]; rfl)
  have hP : 2 ≤ p ∧ p ≤ 5 := prime_le5 (sizesB_parts (schemeB_sizes hx)).1
  have hl30 := schemeB_len hx
  have HX := Lib.hid hx
  obtain ⟨N8, hN8⟩ : ∃ z9, (unA (mgF p) qs.length qs).length = z9 := ⟨_, rfl⟩
  have HN8 := Lib.hid hN8
  clear hN8
  clear hx
  go_enter Try.func21, Try.ntmps21
  go_upto_region 0 with (fail)
  refine wp_region_lit ?_
  refine ls_op rfl (fun K' hK' => ?_)
  have lz1 := hB.size
  refine wp_new (some 1) rfl (exec_box 39 _ rfl (#[.int .i64 p, .int .i64 n, .int .i64 m, .int .i64 k, .slice (some a9) qs.length c]) rfl) (fun Wz2 nnz3 => ?_)
  have bz4 := nnz3.below (Below.refl _ _) (Nat.le_refl _)
  replace hB := below_after hB bz4
  have hz5 : At Wz2 w.heap.size (.cells #[.int .i64 p, .int .i64 n, .int .i64 m, .int .i64 k, .slice (some a9) qs.length c] 39 (0, 0)) := nnz3.at_
  refine hK' _ _ ?_
  clear hK' K' nnz3 bz4
  go_frame
  refine ls_op rfl (fun K' hK' => ?_)
  have lz6 := hB.size
  have lz7 := hz5.lt
  refine wp_new (some 2) rfl (alMt_impl_Scheme rfl) (fun Wz8 nnz9 => ?_)
  have bz10 := nnz9.below (Below.refl _ _) (Nat.le_refl _)
  replace hB := below_after hB bz10
  replace hz5 := hz5.after bz10
  have hz11 : At Wz8 Wz2.heap.size (.cells #[.int .i64 0, .int .i64 0, .int .i64 0, .int .i64 0, .slice none 0 0] 39 (0, 0)) := nnz9.at_
  refine hK' _ _ ?_
  clear hK' K' nnz9 bz10
  go_frame
  refine ls_ex (some 3) (.int .i64 0) rfl rfl (exec_assign _ rfl (.int .i64 0) rfl) ?_
  go_frame
  refine wpList_nil ?_
  go_upto_region 1 with (fail)
  refine wp_region_lit ?_
  refine ls_ex (some 5) (.agg #[.int .i64 p, .int .i64 n, .int .i64 m, .int .i64 k, .slice (some a9) qs.length c]) rfl rfl (exec_load_all 39 _ rfl w.heap.size rfl _ _ _ hz5 Try.underlying39 rfl 5 (by kernel_rfl) rfl) ?_
  go_frame
  refine ls_op rfl (fun K' hK' => ?_)
  have lz14 := hB.size
  have lz15 := hz5.lt
  have lz16 := hz11.lt
  refine wp_call1 (some 6) rfl 38 _ _ rfl (fun args w => by kernel_rfl) _ rfl _ (implIsScheme_c p n m k (some a9) c qs _ (hR.keep hB) hlen) (fun e Wz12 h => ?_)
  obtain ⟨rfl, bz13⟩ := h
  replace hB := below_after hB bz13
  replace hz5 := hz5.after bz13
  replace hz11 := hz11.after bz13
  rw [HX.out]
  clear bz13
  refine ⟨_, rfl, ?_⟩
  refine hK' _ _ ?_
  clear hK' K'
  go_frame
  refine ls_ex (some 7) (.bool false) rfl rfl (exec_not _ _ rfl true rfl) ?_
  go_frame
  refine wpList_nil ?_
  go_upto_region 3 with (fail)
  refine wp_region_lit ?_
  refine ls_ex (some 9) (.pointer (some ⟨w.heap.size, 4, none⟩)) rfl rfl (exec_fieldAddr 39 _ 4 rfl _ (by kernel_rfl)) ?_
  go_frame
  refine ls_ex (some 10) (.slice (some a9) qs.length c) rfl rfl (exec_load_one 26 _ rfl w.heap.size 4 rfl (.slice (some a9) qs.length c) _ Try.underlying26 rfl (hz5.at_ 4)) ?_
  go_frame
  refine ls_ex (some 11) (.func (.func 47) #[] #[.pointer (some ⟨w.heap.size, 0, none⟩)]) rfl rfl (exec_mkf1U _ _ rfl _ rfl) ?_
  go_frame
  refine ls_op rfl (fun K' hK' => ?_)
  have lz19 := hB.size
  have lz20 := hz5.lt
  have lz21 := hz11.lt
  have lo9 := hB.size
  refine wp_call2 (some 12) rfl 46 _ _ _ rfl (fun args w => by kernel_rfl) _ _ rfl rfl _ (united_c (mgF p) (Bytes 27) 47 #[.pointer (some ⟨w.heap.size, 0, none⟩)] (some a9) c qs _ (fun args w => by kernel_rfl) (hR.keep hB) (by omega) (fun _ h => h) hR.good (fun q r one hq _ hu => ⟨opF_bytes hq hP hu, fun _ => opF_bytes hq hP hu⟩) (fun q r w1 hb hq hr => mgClos_c p n m k _ _ _ _ q r hq hr w1 hP (hz5.after hb))) (fun e Wz17 h => ?_)
  obtain ⟨v8, rfl, ho, bz18⟩ := h
  replace hB := below_after hB bz18
  replace hz5 := hz5.after bz18
  replace hz11 := hz11.after bz18
  obtain ⟨A8, c8, rfl⟩ := Own.rdN2 ho (n := N8) HN8.out
  clear bz18
  refine ⟨_, rfl, ?_⟩
  refine hK' _ _ ?_
  clear hK' K'
  go_frame
  refine ls_ex (some 4) (.slice A8 N8 c8) rfl rfl (exec_assign _ rfl (.slice A8 N8 c8) rfl) ?_
  go_frame
  refine wpList_nil ?_
  go_upto_region 4 with (fail)
  refine wp_region_y (zs := [6]) (S := fun w' => Below w.heap.size w w' ∧ At w' w.heap.size (.cells #[.int .i64 p, .int .i64 n, .int .i64 m, .int .i64 k, .slice (some a9) qs.length c] 39 (0, 0))) (S2 := fun w' => True) (by kernel_rfl) ?_
  change wpAnyY _ _ _ _ _ _ _ _ _ _ (World.drew _)
  generalize hwdz22 : World.drew _ = wdz22
  replace hB : Below w.heap.size w wdz22 := by rw [← hwdz22]; exact hB.drew
  replace hz5 : At wdz22 w.heap.size (.cells #[.int .i64 p, .int .i64 n, .int .i64 m, .int .i64 k, .slice (some a9) qs.length c] 39 (0, 0)) := by rw [← hwdz22]; exact hz5
  replace hz11 : At wdz22 Wz2.heap.size (.cells #[.int .i64 0, .int .i64 0, .int .i64 0, .int .i64 0, .slice none 0 0] 39 (0, 0)) := by rw [← hwdz22]; exact hz11
  replace ho : Own wdz22 Wz12.heap.size (.slice A8 N8 c8) (unA (mgF p) qs.length qs) := by rw [← hwdz22]; exact ho.drew
  clear hwdz22
  refine y_yield 0 (some 13) (.pointer (some ⟨w.heap.size, 0, none⟩)) rfl (by kernel_rfl) (by kernel_rfl) (by kernel_rfl) (fun _ _ _ h => h) rfl rfl ⟨hB, hz5⟩ (fun w' h' => exec_fieldAddr 39 _ 0 rfl _ (by kernel_rfl)) ?_
  go_frame
  refine y_yield 1 (some 14) (.int .i64 p) rfl (by kernel_rfl) (by kernel_rfl) (by kernel_rfl) (fun _ _ _ h => h) rfl rfl ⟨hB, hz5⟩ (fun w' h' => exec_load_one 2 _ rfl w.heap.size 0 rfl (.int .i64 p) _ Try.underlying2 rfl (h'.2.at_ 0)) ?_
  go_frame
  refine y_yield 2 (some 15) (.agg #[.int .i64 p, .int .i64 n, .int .i64 m, .int .i64 k, .slice (some a9) qs.length c]) rfl (by kernel_rfl) (by kernel_rfl) (by kernel_rfl) (fun _ _ _ h => h) rfl rfl ⟨hB, hz5⟩ (fun w' h' => exec_load_all 39 _ rfl w.heap.size rfl _ _ _ h'.2 Try.underlying39 rfl 5 (by kernel_rfl) rfl) ?_
  go_frame
  refine y_yield 4 (some 17) (.slice A8 N8 c8) rfl (by kernel_rfl) (by kernel_rfl) (by kernel_rfl) (fun _ _ _ h => h) rfl rfl ⟨hB, hz5⟩ (fun w' h' => exec_move _ rfl (.slice A8 N8 c8) rfl) ?_
  go_frame
  refine y_oper 3 (by kernel_rfl) rfl rfl (fun K' hK' => ?_)
  have lz25 := hB.size
  have lz26 := hz5.lt
  have lz27 := hz11.lt
  refine wp_call1 (some 16) rfl 39 _ _ rfl (fun args w => by kernel_rfl) _ rfl _ (sizesOf_c _ _ _ _ _ _) (fun e Wz23 h => ?_)
  obtain ⟨rfl, bz24⟩ := h
  replace hB := below_after hB bz24
  replace hz5 := hz5.after bz24
  replace hz11 := hz11.after bz24
  replace ho := ho.below bz24
  clear bz24
  refine ⟨_, rfl, ?_⟩
  refine hK' _ _ ⟨hB, hz5⟩ (fun _ => trivial) ?_
  clear hK' K'
  go_frame
  refine y_oper 5 (by kernel_rfl) rfl rfl (fun K' hK' => ?_)
  have lz30 := hB.size
  have lz31 := hz5.lt
  have lz32 := hz11.lt
  refine wp_call3 (some 18) rfl 43 _ _ _ _ rfl (fun args w => by kernel_rfl) _ _ _ rfl rfl rfl _ (schemeForG_c _ _ _ _ _ _ _ _) (fun e Wz28 h => ?_)
  obtain ⟨rfl, bz29⟩ := h
  replace hB := below_after hB bz29
  replace hz5 := hz5.after bz29
  replace hz11 := hz11.after bz29
  replace ho := ho.below bz29
  clear bz29
  refine ⟨_, rfl, ?_⟩
  refine hK' _ _ ⟨hB, hz5⟩ (fun _ => trivial) ?_
  clear hK' K'
  go_frame
  refine y_oper 6 (by kernel_rfl) rfl rfl (fun K' hK' => ?_)
  refine wp_store_all 39 _ _ rfl rfl Wz2.heap.size rfl #[.int .i64 p, .int .i64 n, .int .i64 m, .int .i64 k, .slice A8 N8 c8] rfl _ _ hz11 5 (by kernel_rfl) rfl rfl (one5 _ _ _ _ _ _ _) (fun Wz33 pz34 => ?_)
  replace hB := pz34.below hB (by omega)
  replace hz5 := pz34.other hz5 (by omega)
  replace ho := ho.put pz34 (ho.off hz11 (by decide))
  replace hz11 : At Wz33 Wz2.heap.size (.cells #[.int .i64 p, .int .i64 n, .int .i64 m, .int .i64 k, .slice A8 N8 c8] 39 (0, 0)) := pz34.at_
  refine hK' _ _ ⟨hB, hz5⟩ (fun h => absurd (by decide) h) ?_
  clear hK' K' pz34
  refine y_oper 7 (by kernel_rfl) rfl rfl (fun K' hK' => ?_)
  refine wp_exec (some 3) rfl (.int .i64 0) (exec_assign _ rfl (.int .i64 0) rfl) ?_
  refine hK' _ _ ⟨hB, hz5⟩ (fun _ => trivial) ?_
  clear hK' K'
  go_frame
  refine y_done (by kernel_rfl) ?_ _
  go_wp2_with fail
  refine bodyPost_ret (results_at2 rfl _ _ Wz2.heap.size _ _ _ rfl _ rfl hz11 Try.underlying39 rfl 5 (by kernel_rfl) rfl) rfl ?_
  unfold ResS gZ gL
  rw [HC.out]
  exact ⟨_, rfl, by exact ho.mono (by omega), hB⟩
theorem implMergeScheme_c (p n m k : Int) (a9 : Addr) (c : Nat) (qs : List (List Nat)) (w : World) (hR : Rd w (some a9) qs) (hlen : qs.length ≤ 1048576) : Calls Try.prog 21 #[.agg #[.int .i64 p, .int .i64 n, .int .i64 m, .int .i64 k, .slice (some a9) qs.length c]] w (ResS w (gZ (gCode p n m k qs) p) (gZ (gCode p n m k qs) n) (gZ (gCode p n m k qs) m) (gZ (gCode p n m k qs) k) (gL (gCode p n m k qs) (unA (mgF p) qs.length qs)) (gCode p n m k qs)) := by
  rcases Bool.eq_false_or_eq_true (schemeB p n m k qs) with hx | hx
  · exact implMg_y p n m k a9 c qs w hR hlen hx
  · exact implMg_a p n m k a9 c qs w hR hlen hx
end Go.Proofs.Ytopdfblfhdooaaa
