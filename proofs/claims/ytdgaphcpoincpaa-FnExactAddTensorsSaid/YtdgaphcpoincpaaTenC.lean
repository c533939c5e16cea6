/-
  impl.AddTensors. (Made by mktenc.py.)
-/
import Derived.Test.YtdgaphcpoincpaaTen7Add
import Derived.Test.YtdgaphcpoincpaaTenB
namespace Go.Proofs.Ytdgaphcpoincpaa
open Go.RowKit
set_option maxRecDepth 100000
theorem alC_impl_Tensor {o : Oper} {a : Act} {w : World} (ho : o.op = .alloc 27) : (execOp a.eval o).run Try.prog w = .ok (.value (.pointer (some ⟨w.heap.size, 0, none⟩))) (w.alloc (.cells #[.int .i64 0, .int .i64 0, .int .i64 0, .int .i64 0, .slice none 0 0] 27 (0, 0))) := by
  unfold execOp
  rw [ho]
  kernel_rfl
theorem OwnI.ne_lt {w : World} {lo g : Nat} {v : Value} {xs : List Int} (h : OwnI w lo v xs) (hg : g < lo) : some g ≠ v.ownBlock := fun e => by
  have := (h.lt e.symm).1
  omega
def adCode (p a b c : Int) (xs : List Int) (q d e f : Int) (ys : List Int) (kk : Int) : Int :=
  if ckCode p a b c xs q d e f ys = 0 then (if (a == d && (b == e && c == f)) = true ∧ inB kk p = true then 0 else 2) else ckCode p a b c xs q d e f ys
def adZ (p a b c : Int) (xs : List Int) (q d e f : Int) (ys : List Int) (kk x : Int) : Int := if adCode p a b c xs q d e f ys kk = 0 then x else 0
def adR (p a b c : Int) (xs : List Int) (q d e f : Int) (ys : List Int) (kk : Int) : List Int := if adCode p a b c xs q d e f ys kk = 0 then genL b.toNat c.toNat p (addF b.toNat c.toNat kk xs ys) (a.toNat * b.toNat * c.toNat) else []
set_option maxHeartbeats 3200000 in
theorem implAdd_a (p a b c : Int) (A : Option Addr) (cap : Nat) (xs : List Int) (q d e f : Int) (B : Option Addr) (cap2 : Nat) (ys : List Int) (kk : Int) (w : World) (hr : RdI w A xs) (hn : xs.length ≤ 1048576) (hs : RdI w B ys) (hm : ys.length ≤ 1048576) (hck : ckCode p a b c xs q d e f ys = 1) :
    Calls Try.prog 19 #[.agg #[.int .i64 p, .int .i64 a, .int .i64 b, .int .i64 c, .slice A xs.length cap], .agg #[.int .i64 q, .int .i64 d, .int .i64 e, .int .i64 f, .slice B ys.length cap2], .int .i64 kk] w (ResT w (adZ p a b c xs q d e f ys kk p) (adZ p a b c xs q d e f ys kk a) (adZ p a b c xs q d e f ys kk b) (adZ p a b c xs q d e f ys kk c) (adR p a b c xs q d e f ys kk) (adCode p a b c xs q d e f ys kk)) := by
  have hB := Below.refl w.heap.size w
  have HCk := Lib.hid (fun w' (hb : Below w.heap.size w w') => checkTensors_c p a b c A cap xs q d e f B cap2 ys w' (hr.keep hb) hn (hs.keep hb) hm)
  have Hcode : Hid (adCode p a b c xs q d e f ys kk = 1) := Lib.hid (by simp [adCode, hck])
  have Hz : Hid (∀ x, adZ p a b c xs q d e f ys kk x = 0) := Lib.hid (fun x => by simp [adZ, Hcode.out])
  have Hr : Hid (adR p a b c xs q d e f ys kk = []) := Lib.hid (by simp [adR, Hcode.out])
  have Hck := Lib.hid hck
  clear hck
  go_enter Try.func19, Try.ntmps19
  go_upto_region 0 with (fail)
  refine wp_region_lit ?_
  refine ls_op rfl (fun K' hK' => ?_)
  have lz1 := hB.size
  refine wp_new (some 3) rfl (exec_box 27 _ rfl (#[.int .i64 p, .int .i64 a, .int .i64 b, .int .i64 c, .slice A xs.length cap]) rfl) (fun Wz2 nnz3 => ?_)
  have bz4 := nnz3.below (Below.refl _ _) (Nat.le_refl _)
  replace hB := below_after hB bz4
  have hz5 : At Wz2 w.heap.size (.cells #[.int .i64 p, .int .i64 a, .int .i64 b, .int .i64 c, .slice A xs.length cap] 27 (0, 0)) := nnz3.at_
  refine hK' _ _ ?_
  clear hK' K' nnz3 bz4
  go_frame
  refine ls_op rfl (fun K' hK' => ?_)
  have lz6 := hB.size
  have lz7 := hz5.lt
  refine wp_new (some 4) rfl (exec_box 27 _ rfl (#[.int .i64 q, .int .i64 d, .int .i64 e, .int .i64 f, .slice B ys.length cap2]) rfl) (fun Wz8 nnz9 => ?_)
  have bz10 := nnz9.below (Below.refl _ _) (Nat.le_refl _)
  replace hB := below_after hB bz10
  replace hz5 := hz5.after bz10
  have hz11 : At Wz8 Wz2.heap.size (.cells #[.int .i64 q, .int .i64 d, .int .i64 e, .int .i64 f, .slice B ys.length cap2] 27 (0, 0)) := nnz9.at_
  refine hK' _ _ ?_
  clear hK' K' nnz9 bz10
  go_frame
  refine ls_op rfl (fun K' hK' => ?_)
  have lz12 := hB.size
  have lz13 := hz5.lt
  have lz14 := hz11.lt
  refine wp_new (some 5) rfl (exec_box 2 _ rfl (#[.int .i64 kk]) rfl) (fun Wz15 nnz16 => ?_)
  have bz17 := nnz16.below (Below.refl _ _) (Nat.le_refl _)
  replace hB := below_after hB bz17
  replace hz5 := hz5.after bz17
  replace hz11 := hz11.after bz17
  have hz18 : At Wz15 Wz8.heap.size (.cells #[.int .i64 kk] 2 (0, 0)) := nnz16.at_
  refine hK' _ _ ?_
  clear hK' K' nnz16 bz17
  go_frame
  refine ls_op rfl (fun K' hK' => ?_)
  have lz19 := hB.size
  have lz20 := hz5.lt
  have lz21 := hz11.lt
  have lz22 := hz18.lt
  refine wp_new (some 6) rfl (alC_impl_Tensor rfl) (fun Wz23 nnz24 => ?_)
  have bz25 := nnz24.below (Below.refl _ _) (Nat.le_refl _)
  replace hB := below_after hB bz25
  replace hz5 := hz5.after bz25
  replace hz11 := hz11.after bz25
  replace hz18 := hz18.after bz25
  have hz26 : At Wz23 Wz15.heap.size (.cells #[.int .i64 0, .int .i64 0, .int .i64 0, .int .i64 0, .slice none 0 0] 27 (0, 0)) := nnz24.at_
  refine hK' _ _ ?_
  clear hK' K' nnz24 bz25
  go_frame
  refine ls_ex (some 7) (.int .i64 0) rfl rfl (exec_assign _ rfl (.int .i64 0) rfl) ?_
  go_frame
  refine wpList_nil ?_
  go_upto_region 1 with (fail)
  refine wp_region_lit ?_
  refine ls_ex (some 9) (.agg #[.int .i64 p, .int .i64 a, .int .i64 b, .int .i64 c, .slice A xs.length cap]) rfl rfl (exec_load_all 27 _ rfl w.heap.size rfl _ _ _ hz5 Try.underlying27 rfl 5 (by kernel_rfl) rfl) ?_
  go_frame
  refine ls_ex (some 10) (.agg #[.int .i64 q, .int .i64 d, .int .i64 e, .int .i64 f, .slice B ys.length cap2]) rfl rfl (exec_load_all 27 _ rfl Wz2.heap.size rfl _ _ _ hz11 Try.underlying27 rfl 5 (by kernel_rfl) rfl) ?_
  go_frame
  refine ls_op rfl (fun K' hK' => ?_)
  have lz29 := hB.size
  have lz30 := hz5.lt
  have lz31 := hz11.lt
  have lz32 := hz18.lt
  have lz33 := hz26.lt
  refine wp_call2 (some 11) rfl 38 _ _ _ rfl (fun args w => by kernel_rfl) _ _ rfl rfl _ (HCk.out _ hB) (fun e Wz27 h => ?_)
  obtain ⟨rfl, bz28⟩ := h
  replace hB := below_after hB bz28
  replace hz5 := hz5.after bz28
  replace hz11 := hz11.after bz28
  replace hz18 := hz18.after bz28
  replace hz26 := hz26.after bz28
  rw [Hck.out]
  clear bz28
  refine ⟨_, rfl, ?_⟩
  refine hK' _ _ ?_
  clear hK' K'
  go_frame
  refine ls_ex (some 8) (.int .i64 1) rfl rfl (exec_assign _ rfl (.int .i64 1) rfl) ?_
  go_frame
  refine wpList_nil ?_
  go_upto_region 2 with (fail)
  refine wp_region_lit ?_
  refine ls_ex (some 12) (.int .i64 1) rfl rfl (exec_move _ rfl (.int .i64 1) rfl) ?_
  go_frame
  refine ls_ex (some 13) (.bool true) rfl rfl (exec_neq _ _ _ _ rfl 1 0 rfl rfl true rfl) ?_
  go_frame
  refine wpList_nil ?_
  go_upto_region 3 with (fail)
  refine wp_region_lit ?_
  refine ls_ex (some 14) (.agg #[.int .i64 0, .int .i64 0, .int .i64 0, .int .i64 0, .slice none 0 0]) rfl rfl (exec_build_nil 27 rfl _ (by kernel_rfl)) ?_
  go_frame
  refine ls_ex (some 15) (.int .i64 1) rfl rfl (exec_move _ rfl (.int .i64 1) rfl) ?_
  go_frame
  refine ls_op rfl (fun K' hK' => ?_)
  refine wp_store_all 27 _ _ rfl rfl Wz15.heap.size rfl #[.int .i64 0, .int .i64 0, .int .i64 0, .int .i64 0, .slice none 0 0] rfl _ _ hz26 5 (by kernel_rfl) rfl rfl (one5 _ _ _ _ _ _ _) (fun Wz34 pz35 => ?_)
  replace hB := pz35.below hB (by omega)
  replace hz5 := pz35.other hz5 (by omega)
  replace hz11 := pz35.other hz11 (by omega)
  replace hz18 := pz35.other hz18 (by omega)
  replace hz26 : At Wz34 Wz15.heap.size (.cells #[.int .i64 0, .int .i64 0, .int .i64 0, .int .i64 0, .slice none 0 0] 27 (0, 0)) := pz35.at_
  refine hK' _ _ ?_
  clear hK' K' pz35
  refine ls_ex (some 7) (.int .i64 1) rfl rfl (exec_assign _ rfl (.int .i64 1) rfl) ?_
  go_frame
  refine wpList_nil ?_
  go_wp2_with fail
  refine bodyPost_ret (results_at2 rfl _ _ (Wz15.heap.size) _ _ _ rfl _ rfl hz26 Try.underlying27 rfl 5 (by kernel_rfl) rfl) rfl ?_
  exact ⟨.slice none 0 0, by rw [Hz.out, Hz.out, Hz.out, Hz.out, Hcode.out]; rfl, by rw [Hr.out]; exact OwnI.nil _ _, hB⟩
set_option maxHeartbeats 3200000 in
theorem implAdd_b (p a b c : Int) (A : Option Addr) (cap : Nat) (xs : List Int) (q d e f : Int) (B : Option Addr) (cap2 : Nat) (ys : List Int) (kk : Int) (w : World) (hr : RdI w A xs) (hn : xs.length ≤ 1048576) (hs : RdI w B ys) (hm : ys.length ≤ 1048576) (hck : ckCode p a b c xs q d e f ys = 2) :
    Calls Try.prog 19 #[.agg #[.int .i64 p, .int .i64 a, .int .i64 b, .int .i64 c, .slice A xs.length cap], .agg #[.int .i64 q, .int .i64 d, .int .i64 e, .int .i64 f, .slice B ys.length cap2], .int .i64 kk] w (ResT w (adZ p a b c xs q d e f ys kk p) (adZ p a b c xs q d e f ys kk a) (adZ p a b c xs q d e f ys kk b) (adZ p a b c xs q d e f ys kk c) (adR p a b c xs q d e f ys kk) (adCode p a b c xs q d e f ys kk)) := by
  have hB := Below.refl w.heap.size w
  have HCk := Lib.hid (fun w' (hb : Below w.heap.size w w') => checkTensors_c p a b c A cap xs q d e f B cap2 ys w' (hr.keep hb) hn (hs.keep hb) hm)
  have Hcode : Hid (adCode p a b c xs q d e f ys kk = 2) := Lib.hid (by simp [adCode, hck])
  have Hz : Hid (∀ x, adZ p a b c xs q d e f ys kk x = 0) := Lib.hid (fun x => by simp [adZ, Hcode.out])
  have Hr : Hid (adR p a b c xs q d e f ys kk = []) := Lib.hid (by simp [adR, Hcode.out])
  have Hck := Lib.hid hck
  clear hck
  go_enter Try.func19, Try.ntmps19
  go_upto_region 0 with (fail)
  refine wp_region_lit ?_
  refine ls_op rfl (fun K' hK' => ?_)
  have lz1 := hB.size
  refine wp_new (some 3) rfl (exec_box 27 _ rfl (#[.int .i64 p, .int .i64 a, .int .i64 b, .int .i64 c, .slice A xs.length cap]) rfl) (fun Wz2 nnz3 => ?_)
  have bz4 := nnz3.below (Below.refl _ _) (Nat.le_refl _)
  replace hB := below_after hB bz4
  have hz5 : At Wz2 w.heap.size (.cells #[.int .i64 p, .int .i64 a, .int .i64 b, .int .i64 c, .slice A xs.length cap] 27 (0, 0)) := nnz3.at_
  refine hK' _ _ ?_
  clear hK' K' nnz3 bz4
  go_frame
  refine ls_op rfl (fun K' hK' => ?_)
  have lz6 := hB.size
  have lz7 := hz5.lt
  refine wp_new (some 4) rfl (exec_box 27 _ rfl (#[.int .i64 q, .int .i64 d, .int .i64 e, .int .i64 f, .slice B ys.length cap2]) rfl) (fun Wz8 nnz9 => ?_)
  have bz10 := nnz9.below (Below.refl _ _) (Nat.le_refl _)
  replace hB := below_after hB bz10
  replace hz5 := hz5.after bz10
  have hz11 : At Wz8 Wz2.heap.size (.cells #[.int .i64 q, .int .i64 d, .int .i64 e, .int .i64 f, .slice B ys.length cap2] 27 (0, 0)) := nnz9.at_
  refine hK' _ _ ?_
  clear hK' K' nnz9 bz10
  go_frame
  refine ls_op rfl (fun K' hK' => ?_)
  have lz12 := hB.size
  have lz13 := hz5.lt
  have lz14 := hz11.lt
  refine wp_new (some 5) rfl (exec_box 2 _ rfl (#[.int .i64 kk]) rfl) (fun Wz15 nnz16 => ?_)
  have bz17 := nnz16.below (Below.refl _ _) (Nat.le_refl _)
  replace hB := below_after hB bz17
  replace hz5 := hz5.after bz17
  replace hz11 := hz11.after bz17
  have hz18 : At Wz15 Wz8.heap.size (.cells #[.int .i64 kk] 2 (0, 0)) := nnz16.at_
  refine hK' _ _ ?_
  clear hK' K' nnz16 bz17
  go_frame
  refine ls_op rfl (fun K' hK' => ?_)
  have lz19 := hB.size
  have lz20 := hz5.lt
  have lz21 := hz11.lt
  have lz22 := hz18.lt
  refine wp_new (some 6) rfl (alC_impl_Tensor rfl) (fun Wz23 nnz24 => ?_)
  have bz25 := nnz24.below (Below.refl _ _) (Nat.le_refl _)
  replace hB := below_after hB bz25
  replace hz5 := hz5.after bz25
  replace hz11 := hz11.after bz25
  replace hz18 := hz18.after bz25
  have hz26 : At Wz23 Wz15.heap.size (.cells #[.int .i64 0, .int .i64 0, .int .i64 0, .int .i64 0, .slice none 0 0] 27 (0, 0)) := nnz24.at_
  refine hK' _ _ ?_
  clear hK' K' nnz24 bz25
  go_frame
  refine ls_ex (some 7) (.int .i64 0) rfl rfl (exec_assign _ rfl (.int .i64 0) rfl) ?_
  go_frame
  refine wpList_nil ?_
  go_upto_region 1 with (fail)
  refine wp_region_lit ?_
  refine ls_ex (some 9) (.agg #[.int .i64 p, .int .i64 a, .int .i64 b, .int .i64 c, .slice A xs.length cap]) rfl rfl (exec_load_all 27 _ rfl w.heap.size rfl _ _ _ hz5 Try.underlying27 rfl 5 (by kernel_rfl) rfl) ?_
  go_frame
  refine ls_ex (some 10) (.agg #[.int .i64 q, .int .i64 d, .int .i64 e, .int .i64 f, .slice B ys.length cap2]) rfl rfl (exec_load_all 27 _ rfl Wz2.heap.size rfl _ _ _ hz11 Try.underlying27 rfl 5 (by kernel_rfl) rfl) ?_
  go_frame
  refine ls_op rfl (fun K' hK' => ?_)
  have lz29 := hB.size
  have lz30 := hz5.lt
  have lz31 := hz11.lt
  have lz32 := hz18.lt
  have lz33 := hz26.lt
  refine wp_call2 (some 11) rfl 38 _ _ _ rfl (fun args w => by kernel_rfl) _ _ rfl rfl _ (HCk.out _ hB) (fun e Wz27 h => ?_)
  obtain ⟨rfl, bz28⟩ := h
  replace hB := below_after hB bz28
  replace hz5 := hz5.after bz28
  replace hz11 := hz11.after bz28
  replace hz18 := hz18.after bz28
  replace hz26 := hz26.after bz28
  rw [Hck.out]
  clear bz28
  refine ⟨_, rfl, ?_⟩
  refine hK' _ _ ?_
  clear hK' K'
  go_frame
  refine ls_ex (some 8) (.int .i64 2) rfl rfl (exec_assign _ rfl (.int .i64 2) rfl) ?_
  go_frame
  refine wpList_nil ?_
  go_upto_region 2 with (fail)
  refine wp_region_lit ?_
  refine ls_ex (some 12) (.int .i64 2) rfl rfl (exec_move _ rfl (.int .i64 2) rfl) ?_
  go_frame
  refine ls_ex (some 13) (.bool true) rfl rfl (exec_neq _ _ _ _ rfl 2 0 rfl rfl true rfl) ?_
  go_frame
  refine wpList_nil ?_
  go_upto_region 3 with (fail)
  refine wp_region_lit ?_
  refine ls_ex (some 14) (.agg #[.int .i64 0, .int .i64 0, .int .i64 0, .int .i64 0, .slice none 0 0]) rfl rfl (exec_build_nil 27 rfl _ (by kernel_rfl)) ?_
  go_frame
  refine ls_ex (some 15) (.int .i64 2) rfl rfl (exec_move _ rfl (.int .i64 2) rfl) ?_
  go_frame
  refine ls_op rfl (fun K' hK' => ?_)
  refine wp_store_all 27 _ _ rfl rfl Wz15.heap.size rfl #[.int .i64 0, .int .i64 0, .int .i64 0, .int .i64 0, .slice none 0 0] rfl _ _ hz26 5 (by kernel_rfl) rfl rfl (one5 _ _ _ _ _ _ _) (fun Wz34 pz35 => ?_)
  replace hB := pz35.below hB (by omega)
  replace hz5 := pz35.other hz5 (by omega)
  replace hz11 := pz35.other hz11 (by omega)
  replace hz18 := pz35.other hz18 (by omega)
  replace hz26 : At Wz34 Wz15.heap.size (.cells #[.int .i64 0, .int .i64 0, .int .i64 0, .int .i64 0, .slice none 0 0] 27 (0, 0)) := pz35.at_
  refine hK' _ _ ?_
  clear hK' K' pz35
  refine ls_ex (some 7) (.int .i64 2) rfl rfl (exec_assign _ rfl (.int .i64 2) rfl) ?_
  go_frame
  refine wpList_nil ?_
  go_wp2_with fail
  refine bodyPost_ret (results_at2 rfl _ _ (Wz15.heap.size) _ _ _ rfl _ rfl hz26 Try.underlying27 rfl 5 (by kernel_rfl) rfl) rfl ?_
  exact ⟨.slice none 0 0, by rw [Hz.out, Hz.out, Hz.out, Hz.out, Hcode.out]; rfl, by rw [Hr.out]; exact OwnI.nil _ _, hB⟩
set_option maxHeartbeats 3200000 in
theorem implAdd_c (p a b c : Int) (A : Option Addr) (cap : Nat) (xs : List Int) (q d e f : Int) (B : Option Addr) (cap2 : Nat) (ys : List Int) (kk : Int) (w : World) (hr : RdI w A xs) (hn : xs.length ≤ 1048576) (hs : RdI w B ys) (hm : ys.length ≤ 1048576) (hck : ckCode p a b c xs q d e f ys = 0) (hbx : (!(a == d && (b == e && c == f))) = true) :
    Calls Try.prog 19 #[.agg #[.int .i64 p, .int .i64 a, .int .i64 b, .int .i64 c, .slice A xs.length cap], .agg #[.int .i64 q, .int .i64 d, .int .i64 e, .int .i64 f, .slice B ys.length cap2], .int .i64 kk] w (ResT w (adZ p a b c xs q d e f ys kk p) (adZ p a b c xs q d e f ys kk a) (adZ p a b c xs q d e f ys kk b) (adZ p a b c xs q d e f ys kk c) (adR p a b c xs q d e f ys kk) (adCode p a b c xs q d e f ys kk)) := by
  have hB := Below.refl w.heap.size w
  have HCk := Lib.hid (fun w' (hb : Below w.heap.size w w') => checkTensors_c p a b c A cap xs q d e f B cap2 ys w' (hr.keep hb) hn (hs.keep hb) hm)
  have Hcode : Hid (adCode p a b c xs q d e f ys kk = 2) := Lib.hid (by simp only [adCode, hck, if_pos]; rw [if_neg]; intro h; rw [h.1] at hbx; exact absurd hbx (by decide))
  have Hz : Hid (∀ x, adZ p a b c xs q d e f ys kk x = 0) := Lib.hid (fun x => by simp [adZ, Hcode.out])
  have Hr : Hid (adR p a b c xs q d e f ys kk = []) := Lib.hid (by simp [adR, Hcode.out])
  have Hck := Lib.hid hck
  have HBx := Lib.hid hbx
  clear hck hbx
  go_enter Try.func19, Try.ntmps19
  go_upto_region 0 with (fail)
  refine wp_region_lit ?_
  refine ls_op rfl (fun K' hK' => ?_)
  have lz1 := hB.size
  refine wp_new (some 3) rfl (exec_box 27 _ rfl (#[.int .i64 p, .int .i64 a, .int .i64 b, .int .i64 c, .slice A xs.length cap]) rfl) (fun Wz2 nnz3 => ?_)
  have bz4 := nnz3.below (Below.refl _ _) (Nat.le_refl _)
  replace hB := below_after hB bz4
  have hz5 : At Wz2 w.heap.size (.cells #[.int .i64 p, .int .i64 a, .int .i64 b, .int .i64 c, .slice A xs.length cap] 27 (0, 0)) := nnz3.at_
  refine hK' _ _ ?_
  clear hK' K' nnz3 bz4
  go_frame
  refine ls_op rfl (fun K' hK' => ?_)
  have lz6 := hB.size
  have lz7 := hz5.lt
  refine wp_new (some 4) rfl (exec_box 27 _ rfl (#[.int .i64 q, .int .i64 d, .int .i64 e, .int .i64 f, .slice B ys.length cap2]) rfl) (fun Wz8 nnz9 => ?_)
  have bz10 := nnz9.below (Below.refl _ _) (Nat.le_refl _)
  replace hB := below_after hB bz10
  replace hz5 := hz5.after bz10
  have hz11 : At Wz8 Wz2.heap.size (.cells #[.int .i64 q, .int .i64 d, .int .i64 e, .int .i64 f, .slice B ys.length cap2] 27 (0, 0)) := nnz9.at_
  refine hK' _ _ ?_
  clear hK' K' nnz9 bz10
  go_frame
  refine ls_op rfl (fun K' hK' => ?_)
  have lz12 := hB.size
  have lz13 := hz5.lt
  have lz14 := hz11.lt
  refine wp_new (some 5) rfl (exec_box 2 _ rfl (#[.int .i64 kk]) rfl) (fun Wz15 nnz16 => ?_)
  have bz17 := nnz16.below (Below.refl _ _) (Nat.le_refl _)
  replace hB := below_after hB bz17
  replace hz5 := hz5.after bz17
  replace hz11 := hz11.after bz17
  have hz18 : At Wz15 Wz8.heap.size (.cells #[.int .i64 kk] 2 (0, 0)) := nnz16.at_
  refine hK' _ _ ?_
  clear hK' K' nnz16 bz17
  go_frame
  refine ls_op rfl (fun K' hK' => ?_)
  have lz19 := hB.size
  have lz20 := hz5.lt
  have lz21 := hz11.lt
  have lz22 := hz18.lt
  refine wp_new (some 6) rfl (alC_impl_Tensor rfl) (fun Wz23 nnz24 => ?_)
  have bz25 := nnz24.below (Below.refl _ _) (Nat.le_refl _)
  replace hB := below_after hB bz25
  replace hz5 := hz5.after bz25
  replace hz11 := hz11.after bz25
  replace hz18 := hz18.after bz25
  have hz26 : At Wz23 Wz15.heap.size (.cells #[.int .i64 0, .int .i64 0, .int .i64 0, .int .i64 0, .slice none 0 0] 27 (0, 0)) := nnz24.at_
  refine hK' _ _ ?_
  clear hK' K' nnz24 bz25
  go_frame
  refine ls_ex (some 7) (.int .i64 0) rfl rfl (exec_assign _ rfl (.int .i64 0) rfl) ?_
  go_frame
  refine wpList_nil ?_
  go_upto_region 1 with (fail)
  refine wp_region_lit ?_
  refine ls_ex (some 9) (.agg #[.int .i64 p, .int .i64 a, .int .i64 b, .int .i64 c, .slice A xs.length cap]) rfl rfl (exec_load_all 27 _ rfl w.heap.size rfl _ _ _ hz5 Try.underlying27 rfl 5 (by kernel_rfl) rfl) ?_
  go_frame
  refine ls_ex (some 10) (.agg #[.int .i64 q, .int .i64 d, .int .i64 e, .int .i64 f, .slice B ys.length cap2]) rfl rfl (exec_load_all 27 _ rfl Wz2.heap.size rfl _ _ _ hz11 Try.underlying27 rfl 5 (by kernel_rfl) rfl) ?_
  go_frame
  refine ls_op rfl (fun K' hK' => ?_)
  have lz29 := hB.size
  have lz30 := hz5.lt
  have lz31 := hz11.lt
  have lz32 := hz18.lt
  have lz33 := hz26.lt
  refine wp_call2 (some 11) rfl 38 _ _ _ rfl (fun args w => by kernel_rfl) _ _ rfl rfl _ (HCk.out _ hB) (fun e Wz27 h => ?_)
  obtain ⟨rfl, bz28⟩ := h
  replace hB := below_after hB bz28
  replace hz5 := hz5.after bz28
  replace hz11 := hz11.after bz28
  replace hz18 := hz18.after bz28
  replace hz26 := hz26.after bz28
  rw [Hck.out]
  clear bz28
  refine ⟨_, rfl, ?_⟩
  refine hK' _ _ ?_
  clear hK' K'
  go_frame
  refine ls_ex (some 8) (.int .i64 0) rfl rfl (exec_assign _ rfl (.int .i64 0) rfl) ?_
  go_frame
  refine wpList_nil ?_
  go_upto_region 2 with (fail)
  refine wp_region_lit ?_
  refine ls_ex (some 12) (.int .i64 0) rfl rfl (exec_move _ rfl (.int .i64 0) rfl) ?_
  go_frame
  refine ls_ex (some 13) (.bool false) rfl rfl (exec_neq _ _ _ _ rfl 0 0 rfl rfl false rfl) ?_
  go_frame
  refine wpList_nil ?_
  go_upto_region 4 with (fail)
  refine wp_region_y (zs := []) (S := fun w' => Below w.heap.size w w' ∧ At w' w.heap.size (.cells #[.int .i64 p, .int .i64 a, .int .i64 b, .int .i64 c, .slice A xs.length cap] 27 (0, 0)) ∧ At w' Wz2.heap.size (.cells #[.int .i64 q, .int .i64 d, .int .i64 e, .int .i64 f, .slice B ys.length cap2] 27 (0, 0))) (S2 := fun w' => True) (by kernel_rfl) ?_
  change wpAnyY _ _ _ _ _ _ _ _ _ _ (World.drew _)
  generalize hwdz34 : World.drew _ = wdz34
  replace hB : Below w.heap.size w wdz34 := by rw [← hwdz34]; exact hB.drew
  replace hz5 : At wdz34 w.heap.size (.cells #[.int .i64 p, .int .i64 a, .int .i64 b, .int .i64 c, .slice A xs.length cap] 27 (0, 0)) := by rw [← hwdz34]; exact hz5
  replace hz11 : At wdz34 Wz2.heap.size (.cells #[.int .i64 q, .int .i64 d, .int .i64 e, .int .i64 f, .slice B ys.length cap2] 27 (0, 0)) := by rw [← hwdz34]; exact hz11
  replace hz18 : At wdz34 Wz8.heap.size (.cells #[.int .i64 kk] 2 (0, 0)) := by rw [← hwdz34]; exact hz18
  replace hz26 : At wdz34 Wz15.heap.size (.cells #[.int .i64 0, .int .i64 0, .int .i64 0, .int .i64 0, .slice none 0 0] 27 (0, 0)) := by rw [← hwdz34]; exact hz26
  clear hwdz34
  refine y_yield 0 (some 16) (.agg #[.int .i64 p, .int .i64 a, .int .i64 b, .int .i64 c, .slice A xs.length cap]) rfl (by kernel_rfl) (by kernel_rfl) (by kernel_rfl) (fun _ _ _ h => h) rfl rfl ⟨hB, hz5, hz11⟩ (fun w' h' => exec_load_all 27 _ rfl w.heap.size rfl _ _ _ h'.2.1 Try.underlying27 rfl 5 (by kernel_rfl) rfl) ?_
  go_frame
  refine y_yield 2 (some 18) (.agg #[.int .i64 q, .int .i64 d, .int .i64 e, .int .i64 f, .slice B ys.length cap2]) rfl (by kernel_rfl) (by kernel_rfl) (by kernel_rfl) (fun _ _ _ h => h) rfl rfl ⟨hB, hz5, hz11⟩ (fun w' h' => exec_load_all 27 _ rfl Wz2.heap.size rfl _ _ _ h'.2.2 Try.underlying27 rfl 5 (by kernel_rfl) rfl) ?_
  go_frame
  refine y_oper 1 (by kernel_rfl) rfl rfl (fun K' hK' => ?_)
  have lz37 := hB.size
  have lz38 := hz5.lt
  have lz39 := hz11.lt
  have lz40 := hz18.lt
  have lz41 := hz26.lt
  refine wp_call1 (some 17) rfl 23 _ _ rfl (fun args w => by kernel_rfl) _ rfl _ (boxOf_c p a b c _ _) (fun e Wz35 h => ?_)
  obtain ⟨rfl, bz36⟩ := h
  replace hB := below_after hB bz36
  replace hz5 := hz5.after bz36
  replace hz11 := hz11.after bz36
  replace hz18 := hz18.after bz36
  replace hz26 := hz26.after bz36
  clear bz36
  refine ⟨_, rfl, ?_⟩
  refine hK' _ _ ⟨hB, hz5, hz11⟩ (fun _ => trivial) ?_
  clear hK' K'
  go_frame
  refine y_oper 3 (by kernel_rfl) rfl rfl (fun K' hK' => ?_)
  have lz44 := hB.size
  have lz45 := hz5.lt
  have lz46 := hz11.lt
  have lz47 := hz18.lt
  have lz48 := hz26.lt
  refine wp_call1 (some 19) rfl 23 _ _ rfl (fun args w => by kernel_rfl) _ rfl _ (boxOf_c q d e f _ _) (fun e Wz42 h => ?_)
  obtain ⟨rfl, bz43⟩ := h
  replace hB := below_after hB bz43
  replace hz5 := hz5.after bz43
  replace hz11 := hz11.after bz43
  replace hz18 := hz18.after bz43
  replace hz26 := hz26.after bz43
  clear bz43
  refine ⟨_, rfl, ?_⟩
  refine hK' _ _ ⟨hB, hz5, hz11⟩ (fun _ => trivial) ?_
  clear hK' K'
  go_frame
  refine y_yield 4 (some 20) (.bool true) rfl (by kernel_rfl) (by kernel_rfl) (by kernel_rfl) (fun _ _ _ h => h) rfl rfl ⟨hB, hz5, hz11⟩ (fun w' h' => exec_neq_bx _ _ _ rfl a b c d e f rfl rfl true HBx.out) ?_
  go_frame
  refine y_yield 5 (some 21) (.bool true) rfl (by kernel_rfl) (by kernel_rfl) (by kernel_rfl) (fun _ _ _ h => h) rfl rfl ⟨hB, hz5, hz11⟩ (fun w' h' => exec_move _ rfl (.bool true) rfl) ?_
  go_frame
  refine y_skip 6 (some 22) rfl (by kernel_rfl) (by kernel_rfl) (by kernel_rfl) (fun _ _ _ h => h) rfl rfl ⟨hB, hz5, hz11⟩ ?_
  go_frame
  refine y_skip 7 (some 23) rfl (by kernel_rfl) (by kernel_rfl) (by kernel_rfl) (fun _ _ _ h => h) rfl rfl ⟨hB, hz5, hz11⟩ ?_
  go_frame
  refine y_skip 8 (some 24) rfl (by kernel_rfl) (by kernel_rfl) (by kernel_rfl) (fun _ _ _ h => h) rfl rfl ⟨hB, hz5, hz11⟩ ?_
  go_frame
  refine y_pass 9 (some 25) (by kernel_rfl) rfl rfl rfl ⟨hB, hz5, hz11⟩ ?_
  go_frame
  refine y_skip 10 (some 26) rfl (by kernel_rfl) (by kernel_rfl) (by kernel_rfl) (fun _ _ _ h => h) rfl rfl ⟨hB, hz5, hz11⟩ ?_
  go_frame
  refine y_yield 11 (some 27) (.bool true) rfl (by kernel_rfl) (by kernel_rfl) (by kernel_rfl) (fun _ _ _ h => h) rfl rfl ⟨hB, hz5, hz11⟩ (fun w' h' => exec_pick _ _ _ rfl true rfl (.bool true) rfl) ?_
  go_frame
  refine y_done (by kernel_rfl) ?_ _
  go_upto_region 5 with (fail)
  refine wp_region_lit ?_
  refine ls_ex (some 28) (.agg #[.int .i64 0, .int .i64 0, .int .i64 0, .int .i64 0, .slice none 0 0]) rfl rfl (exec_build_nil 27 rfl _ (by kernel_rfl)) ?_
  go_frame
  refine ls_op rfl (fun K' hK' => ?_)
  refine wp_store_all 27 _ _ rfl rfl Wz15.heap.size rfl #[.int .i64 0, .int .i64 0, .int .i64 0, .int .i64 0, .slice none 0 0] rfl _ _ hz26 5 (by kernel_rfl) rfl rfl (one5 _ _ _ _ _ _ _) (fun Wz49 pz50 => ?_)
  replace hB := pz50.below hB (by omega)
  replace hz5 := pz50.other hz5 (by omega)
  replace hz11 := pz50.other hz11 (by omega)
  replace hz18 := pz50.other hz18 (by omega)
  replace hz26 : At Wz49 Wz15.heap.size (.cells #[.int .i64 0, .int .i64 0, .int .i64 0, .int .i64 0, .slice none 0 0] 27 (0, 0)) := pz50.at_
  refine hK' _ _ ?_
  clear hK' K' pz50
  refine ls_ex (some 7) (.int .i64 2) rfl rfl (exec_assign _ rfl (.int .i64 2) rfl) ?_
  go_frame
  refine wpList_nil ?_
  go_wp2_with fail
  refine bodyPost_ret (results_at2 rfl _ _ (Wz15.heap.size) _ _ _ rfl _ rfl hz26 Try.underlying27 rfl 5 (by kernel_rfl) rfl) rfl ?_
  exact ⟨.slice none 0 0, by rw [Hz.out, Hz.out, Hz.out, Hz.out, Hcode.out]; rfl, by rw [Hr.out]; exact OwnI.nil _ _, hB⟩
set_option maxHeartbeats 3200000 in
theorem implAdd_d (p a b c : Int) (A : Option Addr) (cap : Nat) (xs : List Int) (q d e f : Int) (B : Option Addr) (cap2 : Nat) (ys : List Int) (kk : Int) (w : World) (hr : RdI w A xs) (hn : xs.length ≤ 1048576) (hs : RdI w B ys) (hm : ys.length ≤ 1048576) (hck : ckCode p a b c xs q d e f ys = 0) (hbx : (!(a == d && (b == e && c == f))) = false) (hk : inB kk p = false) :
    Calls Try.prog 19 #[.agg #[.int .i64 p, .int .i64 a, .int .i64 b, .int .i64 c, .slice A xs.length cap], .agg #[.int .i64 q, .int .i64 d, .int .i64 e, .int .i64 f, .slice B ys.length cap2], .int .i64 kk] w (ResT w (adZ p a b c xs q d e f ys kk p) (adZ p a b c xs q d e f ys kk a) (adZ p a b c xs q d e f ys kk b) (adZ p a b c xs q d e f ys kk c) (adR p a b c xs q d e f ys kk) (adCode p a b c xs q d e f ys kk)) := by
  have hB := Below.refl w.heap.size w
  have HCk := Lib.hid (fun w' (hb : Below w.heap.size w w') => checkTensors_c p a b c A cap xs q d e f B cap2 ys w' (hr.keep hb) hn (hs.keep hb) hm)
  have Hcode : Hid (adCode p a b c xs q d e f ys kk = 2) := Lib.hid (by simp only [adCode, hck, if_pos]; rw [if_neg]; intro h; rw [h.2] at hk; exact absurd hk (by decide))
  have Hz : Hid (∀ x, adZ p a b c xs q d e f ys kk x = 0) := Lib.hid (fun x => by simp [adZ, Hcode.out])
  have Hr : Hid (adR p a b c xs q d e f ys kk = []) := Lib.hid (by simp [adR, Hcode.out])
  have Hck := Lib.hid hck
  have HBx := Lib.hid hbx
  have Hk := Lib.hid hk
  clear hck hbx hk
  go_enter Try.func19, Try.ntmps19
  go_upto_region 0 with (fail)
  refine wp_region_lit ?_
  refine ls_op rfl (fun K' hK' => ?_)
  have lz1 := hB.size
  refine wp_new (some 3) rfl (exec_box 27 _ rfl (#[.int .i64 p, .int .i64 a, .int .i64 b, .int .i64 c, .slice A xs.length cap]) rfl) (fun Wz2 nnz3 => ?_)
  have bz4 := nnz3.below (Below.refl _ _) (Nat.le_refl _)
  replace hB := below_after hB bz4
  have hz5 : At Wz2 w.heap.size (.cells #[.int .i64 p, .int .i64 a, .int .i64 b, .int .i64 c, .slice A xs.length cap] 27 (0, 0)) := nnz3.at_
  refine hK' _ _ ?_
  clear hK' K' nnz3 bz4
  go_frame
  refine ls_op rfl (fun K' hK' => ?_)
  have lz6 := hB.size
  have lz7 := hz5.lt
  refine wp_new (some 4) rfl (exec_box 27 _ rfl (#[.int .i64 q, .int .i64 d, .int .i64 e, .int .i64 f, .slice B ys.length cap2]) rfl) (fun Wz8 nnz9 => ?_)
  have bz10 := nnz9.below (Below.refl _ _) (Nat.le_refl _)
  replace hB := below_after hB bz10
  replace hz5 := hz5.after bz10
  have hz11 : At Wz8 Wz2.heap.size (.cells #[.int .i64 q, .int .i64 d, .int .i64 e, .int .i64 f, .slice B ys.length cap2] 27 (0, 0)) := nnz9.at_
  refine hK' _ _ ?_
  clear hK' K' nnz9 bz10
  go_frame
  refine ls_op rfl (fun K' hK' => ?_)
  have lz12 := hB.size
  have lz13 := hz5.lt
  have lz14 := hz11.lt
  refine wp_new (some 5) rfl (exec_box 2 _ rfl (#[.int .i64 kk]) rfl) (fun Wz15 nnz16 => ?_)
  have bz17 := nnz16.below (Below.refl _ _) (Nat.le_refl _)
  replace hB := below_after hB bz17
  replace hz5 := hz5.after bz17
  replace hz11 := hz11.after bz17
  have hz18 : At Wz15 Wz8.heap.size (.cells #[.int .i64 kk] 2 (0, 0)) := nnz16.at_
  refine hK' _ _ ?_
  clear hK' K' nnz16 bz17
  go_frame
  refine ls_op rfl (fun K' hK' => ?_)
  have lz19 := hB.size
  have lz20 := hz5.lt
  have lz21 := hz11.lt
  have lz22 := hz18.lt
  refine wp_new (some 6) rfl (alC_impl_Tensor rfl) (fun Wz23 nnz24 => ?_)
  have bz25 := nnz24.below (Below.refl _ _) (Nat.le_refl _)
  replace hB := below_after hB bz25
  replace hz5 := hz5.after bz25
  replace hz11 := hz11.after bz25
  replace hz18 := hz18.after bz25
  have hz26 : At Wz23 Wz15.heap.size (.cells #[.int .i64 0, .int .i64 0, .int .i64 0, .int .i64 0, .slice none 0 0] 27 (0, 0)) := nnz24.at_
  refine hK' _ _ ?_
  clear hK' K' nnz24 bz25
  go_frame
  refine ls_ex (some 7) (.int .i64 0) rfl rfl (exec_assign _ rfl (.int .i64 0) rfl) ?_
  go_frame
  refine wpList_nil ?_
  go_upto_region 1 with (fail)
  refine wp_region_lit ?_
  refine ls_ex (some 9) (.agg #[.int .i64 p, .int .i64 a, .int .i64 b, .int .i64 c, .slice A xs.length cap]) rfl rfl (exec_load_all 27 _ rfl w.heap.size rfl _ _ _ hz5 Try.underlying27 rfl 5 (by kernel_rfl) rfl) ?_
  go_frame
  refine ls_ex (some 10) (.agg #[.int .i64 q, .int .i64 d, .int .i64 e, .int .i64 f, .slice B ys.length cap2]) rfl rfl (exec_load_all 27 _ rfl Wz2.heap.size rfl _ _ _ hz11 Try.underlying27 rfl 5 (by kernel_rfl) rfl) ?_
  go_frame
  refine ls_op rfl (fun K' hK' => ?_)
  have lz29 := hB.size
  have lz30 := hz5.lt
  have lz31 := hz11.lt
  have lz32 := hz18.lt
  have lz33 := hz26.lt
  refine wp_call2 (some 11) rfl 38 _ _ _ rfl (fun args w => by kernel_rfl) _ _ rfl rfl _ (HCk.out _ hB) (fun e Wz27 h => ?_)
  obtain ⟨rfl, bz28⟩ := h
  replace hB := below_after hB bz28
  replace hz5 := hz5.after bz28
  replace hz11 := hz11.after bz28
  replace hz18 := hz18.after bz28
  replace hz26 := hz26.after bz28
  rw [Hck.out]
  clear bz28
  refine ⟨_, rfl, ?_⟩
  refine hK' _ _ ?_
  clear hK' K'
  go_frame
  refine ls_ex (some 8) (.int .i64 0) rfl rfl (exec_assign _ rfl (.int .i64 0) rfl) ?_
  go_frame
  refine wpList_nil ?_
  go_upto_region 2 with (fail)
  refine wp_region_lit ?_
  refine ls_ex (some 12) (.int .i64 0) rfl rfl (exec_move _ rfl (.int .i64 0) rfl) ?_
  go_frame
  refine ls_ex (some 13) (.bool false) rfl rfl (exec_neq _ _ _ _ rfl 0 0 rfl rfl false rfl) ?_
  go_frame
  refine wpList_nil ?_
  go_upto_region 4 with (fail)
  refine wp_region_y (zs := []) (S := fun w' => Below w.heap.size w w' ∧ At w' w.heap.size (.cells #[.int .i64 p, .int .i64 a, .int .i64 b, .int .i64 c, .slice A xs.length cap] 27 (0, 0)) ∧ At w' Wz2.heap.size (.cells #[.int .i64 q, .int .i64 d, .int .i64 e, .int .i64 f, .slice B ys.length cap2] 27 (0, 0)) ∧ At w' Wz8.heap.size (.cells #[.int .i64 kk] 2 (0, 0))) (S2 := fun w' => True) (by kernel_rfl) ?_
  change wpAnyY _ _ _ _ _ _ _ _ _ _ (World.drew _)
  generalize hwdz34 : World.drew _ = wdz34
  replace hB : Below w.heap.size w wdz34 := by rw [← hwdz34]; exact hB.drew
  replace hz5 : At wdz34 w.heap.size (.cells #[.int .i64 p, .int .i64 a, .int .i64 b, .int .i64 c, .slice A xs.length cap] 27 (0, 0)) := by rw [← hwdz34]; exact hz5
  replace hz11 : At wdz34 Wz2.heap.size (.cells #[.int .i64 q, .int .i64 d, .int .i64 e, .int .i64 f, .slice B ys.length cap2] 27 (0, 0)) := by rw [← hwdz34]; exact hz11
  replace hz18 : At wdz34 Wz8.heap.size (.cells #[.int .i64 kk] 2 (0, 0)) := by rw [← hwdz34]; exact hz18
  replace hz26 : At wdz34 Wz15.heap.size (.cells #[.int .i64 0, .int .i64 0, .int .i64 0, .int .i64 0, .slice none 0 0] 27 (0, 0)) := by rw [← hwdz34]; exact hz26
  clear hwdz34
  refine y_yield 0 (some 16) (.agg #[.int .i64 p, .int .i64 a, .int .i64 b, .int .i64 c, .slice A xs.length cap]) rfl (by kernel_rfl) (by kernel_rfl) (by kernel_rfl) (fun _ _ _ h => h) rfl rfl ⟨hB, hz5, hz11, hz18⟩ (fun w' h' => exec_load_all 27 _ rfl w.heap.size rfl _ _ _ h'.2.1 Try.underlying27 rfl 5 (by kernel_rfl) rfl) ?_
  go_frame
  refine y_yield 2 (some 18) (.agg #[.int .i64 q, .int .i64 d, .int .i64 e, .int .i64 f, .slice B ys.length cap2]) rfl (by kernel_rfl) (by kernel_rfl) (by kernel_rfl) (fun _ _ _ h => h) rfl rfl ⟨hB, hz5, hz11, hz18⟩ (fun w' h' => exec_load_all 27 _ rfl Wz2.heap.size rfl _ _ _ h'.2.2.1 Try.underlying27 rfl 5 (by kernel_rfl) rfl) ?_
  go_frame
  refine y_oper 1 (by kernel_rfl) rfl rfl (fun K' hK' => ?_)
  have lz37 := hB.size
  have lz38 := hz5.lt
  have lz39 := hz11.lt
  have lz40 := hz18.lt
  have lz41 := hz26.lt
  refine wp_call1 (some 17) rfl 23 _ _ rfl (fun args w => by kernel_rfl) _ rfl _ (boxOf_c p a b c _ _) (fun e Wz35 h => ?_)
  obtain ⟨rfl, bz36⟩ := h
  replace hB := below_after hB bz36
  replace hz5 := hz5.after bz36
  replace hz11 := hz11.after bz36
  replace hz18 := hz18.after bz36
  replace hz26 := hz26.after bz36
  clear bz36
  refine ⟨_, rfl, ?_⟩
  refine hK' _ _ ⟨hB, hz5, hz11, hz18⟩ (fun _ => trivial) ?_
  clear hK' K'
  go_frame
  refine y_oper 3 (by kernel_rfl) rfl rfl (fun K' hK' => ?_)
  have lz44 := hB.size
  have lz45 := hz5.lt
  have lz46 := hz11.lt
  have lz47 := hz18.lt
  have lz48 := hz26.lt
  refine wp_call1 (some 19) rfl 23 _ _ rfl (fun args w => by kernel_rfl) _ rfl _ (boxOf_c q d e f _ _) (fun e Wz42 h => ?_)
  obtain ⟨rfl, bz43⟩ := h
  replace hB := below_after hB bz43
  replace hz5 := hz5.after bz43
  replace hz11 := hz11.after bz43
  replace hz18 := hz18.after bz43
  replace hz26 := hz26.after bz43
  clear bz43
  refine ⟨_, rfl, ?_⟩
  refine hK' _ _ ⟨hB, hz5, hz11, hz18⟩ (fun _ => trivial) ?_
  clear hK' K'
  go_frame
  refine y_yield 4 (some 20) (.bool false) rfl (by kernel_rfl) (by kernel_rfl) (by kernel_rfl) (fun _ _ _ h => h) rfl rfl ⟨hB, hz5, hz11, hz18⟩ (fun w' h' => exec_neq_bx _ _ _ rfl a b c d e f rfl rfl false HBx.out) ?_
  go_frame
  refine y_yield 5 (some 21) (.bool false) rfl (by kernel_rfl) (by kernel_rfl) (by kernel_rfl) (fun _ _ _ h => h) rfl rfl ⟨hB, hz5, hz11, hz18⟩ (fun w' h' => exec_move _ rfl (.bool false) rfl) ?_
  go_frame
  refine y_yield 6 (some 22) (.int .i64 kk) rfl (by kernel_rfl) (by kernel_rfl) (by kernel_rfl) (fun _ _ _ h => h) rfl rfl ⟨hB, hz5, hz11, hz18⟩ (fun w' h' => exec_load_one 2 _ rfl Wz8.heap.size 0 rfl (.int .i64 kk) _ Try.underlying2 rfl (h'.2.2.2.at_ 0)) ?_
  go_frame
  refine y_yield 7 (some 23) (.pointer (some ⟨w.heap.size, 0, none⟩)) rfl (by kernel_rfl) (by kernel_rfl) (by kernel_rfl) (fun _ _ _ h => h) rfl rfl ⟨hB, hz5, hz11, hz18⟩ (fun w' h' => exec_fieldAddr 27 _ 0 rfl _ (by kernel_rfl)) ?_
  go_frame
  refine y_yield 8 (some 24) (.int .i64 p) rfl (by kernel_rfl) (by kernel_rfl) (by kernel_rfl) (fun _ _ _ h => h) rfl rfl ⟨hB, hz5, hz11, hz18⟩ (fun w' h' => exec_load_one 2 _ rfl w.heap.size 0 rfl (.int .i64 p) _ Try.underlying2 rfl (h'.2.1.at_ 0)) ?_
  go_frame
  refine y_oper 9 (by kernel_rfl) rfl rfl (fun K' hK' => ?_)
  have lz51 := hB.size
  have lz52 := hz5.lt
  have lz53 := hz11.lt
  have lz54 := hz18.lt
  have lz55 := hz26.lt
  refine wp_call2 (some 25) rfl 39 _ _ _ rfl (fun args w => by kernel_rfl) _ _ rfl rfl _ (isIndex_c kk p _) (fun e Wz49 h => ?_)
  obtain ⟨rfl, rfl⟩ := h
  rw [Hk.out]
  refine ⟨_, rfl, ?_⟩
  refine hK' _ _ ⟨hB, hz5, hz11, hz18⟩ (fun _ => trivial) ?_
  clear hK' K'
  go_frame
  refine y_yield 10 (some 26) (.bool true) rfl (by kernel_rfl) (by kernel_rfl) (by kernel_rfl) (fun _ _ _ h => h) rfl rfl ⟨hB, hz5, hz11, hz18⟩ (fun w' h' => exec_not _ _ rfl false rfl) ?_
  go_frame
  refine y_yield 11 (some 27) (.bool true) rfl (by kernel_rfl) (by kernel_rfl) (by kernel_rfl) (fun _ _ _ h => h) rfl rfl ⟨hB, hz5, hz11, hz18⟩ (fun w' h' => exec_pick _ _ _ rfl false rfl (.bool true) rfl) ?_
  go_frame
  refine y_done (by kernel_rfl) ?_ _
  go_upto_region 5 with (fail)
  refine wp_region_lit ?_
  refine ls_ex (some 28) (.agg #[.int .i64 0, .int .i64 0, .int .i64 0, .int .i64 0, .slice none 0 0]) rfl rfl (exec_build_nil 27 rfl _ (by kernel_rfl)) ?_
  go_frame
  refine ls_op rfl (fun K' hK' => ?_)
  refine wp_store_all 27 _ _ rfl rfl Wz15.heap.size rfl #[.int .i64 0, .int .i64 0, .int .i64 0, .int .i64 0, .slice none 0 0] rfl _ _ hz26 5 (by kernel_rfl) rfl rfl (one5 _ _ _ _ _ _ _) (fun Wz56 pz57 => ?_)
  replace hB := pz57.below hB (by omega)
  replace hz5 := pz57.other hz5 (by omega)
  replace hz11 := pz57.other hz11 (by omega)
  replace hz18 := pz57.other hz18 (by omega)
  replace hz26 : At Wz56 Wz15.heap.size (.cells #[.int .i64 0, .int .i64 0, .int .i64 0, .int .i64 0, .slice none 0 0] 27 (0, 0)) := pz57.at_
  refine hK' _ _ ?_
  clear hK' K' pz57
  refine ls_ex (some 7) (.int .i64 2) rfl rfl (exec_assign _ rfl (.int .i64 2) rfl) ?_
  go_frame
  refine wpList_nil ?_
  go_wp2_with fail
  refine bodyPost_ret (results_at2 rfl _ _ (Wz15.heap.size) _ _ _ rfl _ rfl hz26 Try.underlying27 rfl 5 (by kernel_rfl) rfl) rfl ?_
  exact ⟨.slice none 0 0, by rw [Hz.out, Hz.out, Hz.out, Hz.out, Hcode.out]; rfl, by rw [Hr.out]; exact OwnI.nil _ _, hB⟩
set_option maxHeartbeats 6400000 in
theorem implAdd_y (p : Int) (n0 n1 n2 : Nat) (A : Option Addr) (cap : Nat) (xs : List Int) (B : Option Addr) (cap2 : Nat) (ys : List Int) (kk : Int) (w : World) (hr : RdI w A xs) (hn : xs.length ≤ 1048576) (hs : RdI w B ys) (hm : ys.length ≤ 1048576)
    (htx : tenB p n0 n1 n2 xs = true) (hty : tenB p n0 n1 n2 ys = true) (hk : inB kk p = true) :
    Calls Try.prog 19 #[.agg #[.int .i64 p, .int .i64 n0, .int .i64 n1, .int .i64 n2, .slice A xs.length cap], .agg #[.int .i64 p, .int .i64 n0, .int .i64 n1, .int .i64 n2, .slice B ys.length cap2], .int .i64 kk] w (ResT w (adZ p n0 n1 n2 xs p n0 n1 n2 ys kk p) (adZ p n0 n1 n2 xs p n0 n1 n2 ys kk n0) (adZ p n0 n1 n2 xs p n0 n1 n2 ys kk n1) (adZ p n0 n1 n2 xs p n0 n1 n2 ys kk n2) (adR p n0 n1 n2 xs p n0 n1 n2 ys kk) (adCode p n0 n1 n2 xs p n0 n1 n2 ys kk)) := by
  have hB := Below.refl w.heap.size w
  obtain ⟨p1, p2, a0, a1, a2, hlx, hx⟩ := tenB_n3 htx
  obtain ⟨_, _, _, _, _, hly, hy⟩ := tenB_n3 hty
  have hck : ckCode p n0 n1 n2 xs p n0 n1 n2 ys = 0 := by unfold ckCode; rw [if_pos htx, if_pos hty, if_pos rfl]
  have hbx : (!((n0 : Int) == (n0 : Int) && ((n1 : Int) == (n1 : Int) && (n2 : Int) == (n2 : Int)))) = false := by simp
  have hkk := inB_iff.1 hk
  have HCk := Lib.hid (fun w' (hb : Below w.heap.size w w') => checkTensors_c p n0 n1 n2 A cap xs p n0 n1 n2 B cap2 ys w' (hr.keep hb) hn (hs.keep hb) hm)
  have Hcode : Hid (adCode p n0 n1 n2 xs p n0 n1 n2 ys kk = 0) := Lib.hid (by simp [adCode, hck, hk])
  have Hz : Hid (∀ x, adZ p n0 n1 n2 xs p n0 n1 n2 ys kk x = x) := Lib.hid (fun x => by simp [adZ, Hcode.out])
  obtain ⟨RL, HRL⟩ : ∃ RL, Hid (genL n1 n2 p (addF n1 n2 kk xs ys) (n0 * n1 * n2) = RL) := ⟨_, Lib.hid rfl⟩
  have Hr : Hid (adR p n0 n1 n2 xs p n0 n1 n2 ys kk = RL) := Lib.hid (by rw [← HRL.out]; simp [adR, Hcode.out])
  have HCl := Lib.hid (fun (gt gk gu : Nat) (w1 : World) (hb1 : Below w.heap.size w w1) (k1 : At w1 gt (.cells #[.int .i64 p, .int .i64 n0, .int .i64 n1, .int .i64 n2, .slice A xs.length cap] 27 (0, 0))) (k2 : At w1 gk (.cells #[.int .i64 kk] 2 (0, 0))) (k3 : At w1 gu (.cells #[.int .i64 p, .int .i64 n0, .int .i64 n1, .int .i64 n2, .slice B ys.length cap2] 27 (0, 0))) =>
    tensorWithAdd_c p n0 n1 n2 gt gk gu (addF n1 n2 kk xs ys) w1 (by omega) (side_of a0) (side_of a1) (side_of a2) (fun i j l w' hi hj hl hb => ⟨addF_nonneg hx hy (by omega) hkk.1 i j l, add1_c p n0 n1 n2 A cap xs B cap2 ys kk i j l gt gk gu w' ((hr.keep hb1).keep hb) ((hs.keep hb1).keep hb) hlx a0.2 a1.2 a2.2 (At.after k1 hb) (At.after k3 hb) (At.after k2 hb) hly hx hy ⟨p1, p2⟩ hkk hi hj hl⟩))
  have Hck := Lib.hid hck
  have HBx := Lib.hid hbx
  have Hk := Lib.hid hk
  clear hck hbx hk htx hty hlx hly hx hy
  go_enter Try.func19, Try.ntmps19
  go_upto_region 0 with (fail)
  refine wp_region_lit ?_
  refine ls_op rfl (fun K' hK' => ?_)
  have lz1 := hB.size
  refine wp_new (some 3) rfl (exec_box 27 _ rfl (#[.int .i64 p, .int .i64 n0, .int .i64 n1, .int .i64 n2, .slice A xs.length cap]) rfl) (fun Wz2 nnz3 => ?_)
  have bz4 := nnz3.below (Below.refl _ _) (Nat.le_refl _)
  replace hB := below_after hB bz4
  have hz5 : At Wz2 w.heap.size (.cells #[.int .i64 p, .int .i64 n0, .int .i64 n1, .int .i64 n2, .slice A xs.length cap] 27 (0, 0)) := nnz3.at_
  refine hK' _ _ ?_
  clear hK' K' nnz3 bz4
  go_frame
  refine ls_op rfl (fun K' hK' => ?_)
  have lz6 := hB.size
  have lz7 := hz5.lt
  refine wp_new (some 4) rfl (exec_box 27 _ rfl (#[.int .i64 p, .int .i64 n0, .int .i64 n1, .int .i64 n2, .slice B ys.length cap2]) rfl) (fun Wz8 nnz9 => ?_)
  have bz10 := nnz9.below (Below.refl _ _) (Nat.le_refl _)
  replace hB := below_after hB bz10
  replace hz5 := hz5.after bz10
  have hz11 : At Wz8 Wz2.heap.size (.cells #[.int .i64 p, .int .i64 n0, .int .i64 n1, .int .i64 n2, .slice B ys.length cap2] 27 (0, 0)) := nnz9.at_
  refine hK' _ _ ?_
  clear hK' K' nnz9 bz10
  go_frame
  refine ls_op rfl (fun K' hK' => ?_)
  have lz12 := hB.size
  have lz13 := hz5.lt
  have lz14 := hz11.lt
  refine wp_new (some 5) rfl (exec_box 2 _ rfl (#[.int .i64 kk]) rfl) (fun Wz15 nnz16 => ?_)
  have bz17 := nnz16.below (Below.refl _ _) (Nat.le_refl _)
  replace hB := below_after hB bz17
  replace hz5 := hz5.after bz17
  replace hz11 := hz11.after bz17
  have hz18 : At Wz15 Wz8.heap.size (.cells #[.int .i64 kk] 2 (0, 0)) := nnz16.at_
  refine hK' _ _ ?_
  clear hK' K' nnz16 bz17
  go_frame
  refine ls_op rfl (fun K' hK' => ?_)
  have lz19 := hB.size
  have lz20 := hz5.lt
  have lz21 := hz11.lt
  have lz22 := hz18.lt
  refine wp_new (some 6) rfl (alC_impl_Tensor rfl) (fun Wz23 nnz24 => ?_)
  have bz25 := nnz24.below (Below.refl _ _) (Nat.le_refl _)
  replace hB := below_after hB bz25
  replace hz5 := hz5.after bz25
  replace hz11 := hz11.after bz25
  replace hz18 := hz18.after bz25
  have hz26 : At Wz23 Wz15.heap.size (.cells #[.int .i64 0, .int .i64 0, .int .i64 0, .int .i64 0, .slice none 0 0] 27 (0, 0)) := nnz24.at_
  refine hK' _ _ ?_
  clear hK' K' nnz24 bz25
  go_frame
  refine ls_ex (some 7) (.int .i64 0) rfl rfl (exec_assign _ rfl (.int .i64 0) rfl) ?_
  go_frame
  refine wpList_nil ?_
  go_upto_region 1 with (fail)
  refine wp_region_lit ?_
  refine ls_ex (some 9) (.agg #[.int .i64 p, .int .i64 n0, .int .i64 n1, .int .i64 n2, .slice A xs.length cap]) rfl rfl (exec_load_all 27 _ rfl w.heap.size rfl _ _ _ hz5 Try.underlying27 rfl 5 (by kernel_rfl) rfl) ?_
  go_frame
  refine ls_ex (some 10) (.agg #[.int .i64 p, .int .i64 n0, .int .i64 n1, .int .i64 n2, .slice B ys.length cap2]) rfl rfl (exec_load_all 27 _ rfl Wz2.heap.size rfl _ _ _ hz11 Try.underlying27 rfl 5 (by kernel_rfl) rfl) ?_
  go_frame
  refine ls_op rfl (fun K' hK' => ?_)
  have lz29 := hB.size
  have lz30 := hz5.lt
  have lz31 := hz11.lt
  have lz32 := hz18.lt
  have lz33 := hz26.lt
  refine wp_call2 (some 11) rfl 38 _ _ _ rfl (fun args w => by kernel_rfl) _ _ rfl rfl _ (HCk.out _ hB) (fun e Wz27 h => ?_)
  obtain ⟨rfl, bz28⟩ := h
  replace hB := below_after hB bz28
  replace hz5 := hz5.after bz28
  replace hz11 := hz11.after bz28
  replace hz18 := hz18.after bz28
  replace hz26 := hz26.after bz28
  rw [Hck.out]
  clear bz28
  refine ⟨_, rfl, ?_⟩
  refine hK' _ _ ?_
  clear hK' K'
  go_frame
  refine ls_ex (some 8) (.int .i64 0) rfl rfl (exec_assign _ rfl (.int .i64 0) rfl) ?_
  go_frame
  refine wpList_nil ?_
  go_upto_region 2 with (fail)
  refine wp_region_lit ?_
  refine ls_ex (some 12) (.int .i64 0) rfl rfl (exec_move _ rfl (.int .i64 0) rfl) ?_
  go_frame
  refine ls_ex (some 13) (.bool false) rfl rfl (exec_neq _ _ _ _ rfl 0 0 rfl rfl false rfl) ?_
  go_frame
  refine wpList_nil ?_
  go_upto_region 4 with (fail)
  refine wp_region_y (zs := []) (S := fun w' => Below w.heap.size w w' ∧ At w' w.heap.size (.cells #[.int .i64 p, .int .i64 n0, .int .i64 n1, .int .i64 n2, .slice A xs.length cap] 27 (0, 0)) ∧ At w' Wz2.heap.size (.cells #[.int .i64 p, .int .i64 n0, .int .i64 n1, .int .i64 n2, .slice B ys.length cap2] 27 (0, 0)) ∧ At w' Wz8.heap.size (.cells #[.int .i64 kk] 2 (0, 0))) (S2 := fun w' => True) (by kernel_rfl) ?_
  change wpAnyY _ _ _ _ _ _ _ _ _ _ (World.drew _)
  generalize hwdz34 : World.drew _ = wdz34
  replace hB : Below w.heap.size w wdz34 := by rw [← hwdz34]; exact hB.drew
  replace hz5 : At wdz34 w.heap.size (.cells #[.int .i64 p, .int .i64 n0, .int .i64 n1, .int .i64 n2, .slice A xs.length cap] 27 (0, 0)) := by rw [← hwdz34]; exact hz5
  replace hz11 : At wdz34 Wz2.heap.size (.cells #[.int .i64 p, .int .i64 n0, .int .i64 n1, .int .i64 n2, .slice B ys.length cap2] 27 (0, 0)) := by rw [← hwdz34]; exact hz11
  replace hz18 : At wdz34 Wz8.heap.size (.cells #[.int .i64 kk] 2 (0, 0)) := by rw [← hwdz34]; exact hz18
  replace hz26 : At wdz34 Wz15.heap.size (.cells #[.int .i64 0, .int .i64 0, .int .i64 0, .int .i64 0, .slice none 0 0] 27 (0, 0)) := by rw [← hwdz34]; exact hz26
  clear hwdz34
  refine y_yield 0 (some 16) (.agg #[.int .i64 p, .int .i64 n0, .int .i64 n1, .int .i64 n2, .slice A xs.length cap]) rfl (by kernel_rfl) (by kernel_rfl) (by kernel_rfl) (fun _ _ _ h => h) rfl rfl ⟨hB, hz5, hz11, hz18⟩ (fun w' h' => exec_load_all 27 _ rfl w.heap.size rfl _ _ _ h'.2.1 Try.underlying27 rfl 5 (by kernel_rfl) rfl) ?_
  go_frame
  refine y_yield 2 (some 18) (.agg #[.int .i64 p, .int .i64 n0, .int .i64 n1, .int .i64 n2, .slice B ys.length cap2]) rfl (by kernel_rfl) (by kernel_rfl) (by kernel_rfl) (fun _ _ _ h => h) rfl rfl ⟨hB, hz5, hz11, hz18⟩ (fun w' h' => exec_load_all 27 _ rfl Wz2.heap.size rfl _ _ _ h'.2.2.1 Try.underlying27 rfl 5 (by kernel_rfl) rfl) ?_
  go_frame
  refine y_oper 1 (by kernel_rfl) rfl rfl (fun K' hK' => ?_)
  have lz37 := hB.size
  have lz38 := hz5.lt
  have lz39 := hz11.lt
  have lz40 := hz18.lt
  have lz41 := hz26.lt
  refine wp_call1 (some 17) rfl 23 _ _ rfl (fun args w => by kernel_rfl) _ rfl _ (boxOf_c p n0 n1 n2 _ _) (fun e Wz35 h => ?_)
  obtain ⟨rfl, bz36⟩ := h
  replace hB := below_after hB bz36
  replace hz5 := hz5.after bz36
  replace hz11 := hz11.after bz36
  replace hz18 := hz18.after bz36
  replace hz26 := hz26.after bz36
  clear bz36
  refine ⟨_, rfl, ?_⟩
  refine hK' _ _ ⟨hB, hz5, hz11, hz18⟩ (fun _ => trivial) ?_
  clear hK' K'
  go_frame
  refine y_oper 3 (by kernel_rfl) rfl rfl (fun K' hK' => ?_)
  have lz44 := hB.size
  have lz45 := hz5.lt
  have lz46 := hz11.lt
  have lz47 := hz18.lt
  have lz48 := hz26.lt
  refine wp_call1 (some 19) rfl 23 _ _ rfl (fun args w => by kernel_rfl) _ rfl _ (boxOf_c p n0 n1 n2 _ _) (fun e Wz42 h => ?_)
  obtain ⟨rfl, bz43⟩ := h
  replace hB := below_after hB bz43
  replace hz5 := hz5.after bz43
  replace hz11 := hz11.after bz43
  replace hz18 := hz18.after bz43
  replace hz26 := hz26.after bz43
  clear bz43
  refine ⟨_, rfl, ?_⟩
  refine hK' _ _ ⟨hB, hz5, hz11, hz18⟩ (fun _ => trivial) ?_
  clear hK' K'
  go_frame
  refine y_yield 4 (some 20) (.bool false) rfl (by kernel_rfl) (by kernel_rfl) (by kernel_rfl) (fun _ _ _ h => h) rfl rfl ⟨hB, hz5, hz11, hz18⟩ (fun w' h' => exec_neq_bx _ _ _ rfl n0 n1 n2 n0 n1 n2 rfl rfl false HBx.out) ?_
  go_frame
  refine y_yield 5 (some 21) (.bool false) rfl (by kernel_rfl) (by kernel_rfl) (by kernel_rfl) (fun _ _ _ h => h) rfl rfl ⟨hB, hz5, hz11, hz18⟩ (fun w' h' => exec_move _ rfl (.bool false) rfl) ?_
  go_frame
  refine y_yield 6 (some 22) (.int .i64 kk) rfl (by kernel_rfl) (by kernel_rfl) (by kernel_rfl) (fun _ _ _ h => h) rfl rfl ⟨hB, hz5, hz11, hz18⟩ (fun w' h' => exec_load_one 2 _ rfl Wz8.heap.size 0 rfl (.int .i64 kk) _ Try.underlying2 rfl (h'.2.2.2.at_ 0)) ?_
  go_frame
  refine y_yield 7 (some 23) (.pointer (some ⟨w.heap.size, 0, none⟩)) rfl (by kernel_rfl) (by kernel_rfl) (by kernel_rfl) (fun _ _ _ h => h) rfl rfl ⟨hB, hz5, hz11, hz18⟩ (fun w' h' => exec_fieldAddr 27 _ 0 rfl _ (by kernel_rfl)) ?_
  go_frame
  refine y_yield 8 (some 24) (.int .i64 p) rfl (by kernel_rfl) (by kernel_rfl) (by kernel_rfl) (fun _ _ _ h => h) rfl rfl ⟨hB, hz5, hz11, hz18⟩ (fun w' h' => exec_load_one 2 _ rfl w.heap.size 0 rfl (.int .i64 p) _ Try.underlying2 rfl (h'.2.1.at_ 0)) ?_
  go_frame
  refine y_oper 9 (by kernel_rfl) rfl rfl (fun K' hK' => ?_)
  have lz51 := hB.size
  have lz52 := hz5.lt
  have lz53 := hz11.lt
  have lz54 := hz18.lt
  have lz55 := hz26.lt
  refine wp_call2 (some 25) rfl 39 _ _ _ rfl (fun args w => by kernel_rfl) _ _ rfl rfl _ (isIndex_c kk p _) (fun e Wz49 h => ?_)
  obtain ⟨rfl, rfl⟩ := h
  rw [Hk.out]
  refine ⟨_, rfl, ?_⟩
  refine hK' _ _ ⟨hB, hz5, hz11, hz18⟩ (fun _ => trivial) ?_
  clear hK' K'
  go_frame
  refine y_yield 10 (some 26) (.bool false) rfl (by kernel_rfl) (by kernel_rfl) (by kernel_rfl) (fun _ _ _ h => h) rfl rfl ⟨hB, hz5, hz11, hz18⟩ (fun w' h' => exec_not _ _ rfl true rfl) ?_
  go_frame
  refine y_yield 11 (some 27) (.bool false) rfl (by kernel_rfl) (by kernel_rfl) (by kernel_rfl) (fun _ _ _ h => h) rfl rfl ⟨hB, hz5, hz11, hz18⟩ (fun w' h' => exec_pick _ _ _ rfl false rfl (.bool false) rfl) ?_
  go_frame
  refine y_done (by kernel_rfl) ?_ _
  go_upto_region 6 with (fail)
  refine wp_region_y (zs := []) (S := fun w' => Below w.heap.size w w' ∧ At w' w.heap.size (.cells #[.int .i64 p, .int .i64 n0, .int .i64 n1, .int .i64 n2, .slice A xs.length cap] 27 (0, 0))) (S2 := fun w' => True) (by kernel_rfl) ?_
  change wpAnyY _ _ _ _ _ _ _ _ _ _ (World.drew _)
  generalize hwdz56 : World.drew _ = wdz56
  replace hB : Below w.heap.size w wdz56 := by rw [← hwdz56]; exact hB.drew
  replace hz5 : At wdz56 w.heap.size (.cells #[.int .i64 p, .int .i64 n0, .int .i64 n1, .int .i64 n2, .slice A xs.length cap] 27 (0, 0)) := by rw [← hwdz56]; exact hz5
  replace hz11 : At wdz56 Wz2.heap.size (.cells #[.int .i64 p, .int .i64 n0, .int .i64 n1, .int .i64 n2, .slice B ys.length cap2] 27 (0, 0)) := by rw [← hwdz56]; exact hz11
  replace hz18 : At wdz56 Wz8.heap.size (.cells #[.int .i64 kk] 2 (0, 0)) := by rw [← hwdz56]; exact hz18
  replace hz26 : At wdz56 Wz15.heap.size (.cells #[.int .i64 0, .int .i64 0, .int .i64 0, .int .i64 0, .slice none 0 0] 27 (0, 0)) := by rw [← hwdz56]; exact hz26
  clear hwdz56
  refine y_yield 0 (some 29) (.pointer (some ⟨w.heap.size, 0, none⟩)) rfl (by kernel_rfl) (by kernel_rfl) (by kernel_rfl) (fun _ _ _ h => h) rfl rfl ⟨hB, hz5⟩ (fun w' h' => exec_fieldAddr 27 _ 0 rfl _ (by kernel_rfl)) ?_
  go_frame
  refine y_yield 1 (some 30) (.int .i64 p) rfl (by kernel_rfl) (by kernel_rfl) (by kernel_rfl) (fun _ _ _ h => h) rfl rfl ⟨hB, hz5⟩ (fun w' h' => exec_load_one 2 _ rfl w.heap.size 0 rfl (.int .i64 p) _ Try.underlying2 rfl (h'.2.at_ 0)) ?_
  go_frame
  refine y_yield 2 (some 31) (.agg #[.int .i64 p, .int .i64 n0, .int .i64 n1, .int .i64 n2, .slice A xs.length cap]) rfl (by kernel_rfl) (by kernel_rfl) (by kernel_rfl) (fun _ _ _ h => h) rfl rfl ⟨hB, hz5⟩ (fun w' h' => exec_load_all 27 _ rfl w.heap.size rfl _ _ _ h'.2 Try.underlying27 rfl 5 (by kernel_rfl) rfl) ?_
  go_frame
  refine y_yield 4 (some 33) (.func (.func 41) #[] #[.pointer (some ⟨w.heap.size, 0, none⟩), .pointer (some ⟨Wz8.heap.size, 0, none⟩), .pointer (some ⟨Wz2.heap.size, 0, none⟩)]) rfl (by kernel_rfl) (by kernel_rfl) (by kernel_rfl) (fun _ _ _ h => h) rfl rfl ⟨hB, hz5⟩ (fun w' h' => exec_mkfn3 _ _ _ _ rfl _ _ _ rfl rfl rfl) ?_
  go_frame
  refine y_oper 3 (by kernel_rfl) rfl rfl (fun K' hK' => ?_)
  have lz59 := hB.size
  have lz60 := hz5.lt
  have lz61 := hz11.lt
  have lz62 := hz18.lt
  have lz63 := hz26.lt
  refine wp_call1 (some 32) rfl 23 _ _ rfl (fun args w => by kernel_rfl) _ rfl _ (boxOf_c p n0 n1 n2 _ _) (fun e Wz57 h => ?_)
  obtain ⟨rfl, bz58⟩ := h
  replace hB := below_after hB bz58
  replace hz5 := hz5.after bz58
  replace hz11 := hz11.after bz58
  replace hz18 := hz18.after bz58
  replace hz26 := hz26.after bz58
  clear bz58
  refine ⟨_, rfl, ?_⟩
  refine hK' _ _ ⟨hB, hz5⟩ (fun _ => trivial) ?_
  clear hK' K'
  go_frame
  refine y_oper 5 (by kernel_rfl) rfl rfl (fun K' hK' => ?_)
  have lz66 := hB.size
  have lz67 := hz5.lt
  have lz68 := hz11.lt
  have lz69 := hz18.lt
  have lz70 := hz26.lt
  skip
  refine wp_call3 (some 34) rfl 40 _ _ _ _ rfl (fun args w => by kernel_rfl) _ _ _ rfl rfl rfl _ (HCl.out _ _ _ _ hB hz5 hz18 hz11) (fun e Wz64 h => ?_)
  obtain ⟨v5, rfl, ho, bz65⟩ := h
  replace hB := below_after hB bz65
  replace hz5 := hz5.after bz65
  replace hz11 := hz11.after bz65
  replace hz18 := hz18.after bz65
  replace hz26 := hz26.after bz65
  rw [HRL.out] at ho
  obtain ⟨A5, c5, rfl, _⟩ := ho.rd
  clear bz65
  refine ⟨_, rfl, ?_⟩
  refine hK' _ _ ⟨hB, hz5⟩ (fun _ => trivial) ?_
  clear hK' K'
  go_frame
  refine y_oper 6 (by kernel_rfl) rfl rfl (fun K' hK' => ?_)
  refine wp_store_all 27 _ _ rfl rfl Wz15.heap.size rfl #[.int .i64 p, .int .i64 n0, .int .i64 n1, .int .i64 n2, .slice A5 RL.length c5] rfl _ _ hz26 5 (by kernel_rfl) rfl rfl (one5 _ _ _ _ _ _ _) (fun Wz71 pz72 => ?_)
  replace hB := pz72.below hB (by omega)
  replace hz5 := pz72.other hz5 (by omega)
  replace hz11 := pz72.other hz11 (by omega)
  replace hz18 := pz72.other hz18 (by omega)
  replace ho := ho.put pz72 (ho.ne_lt (by omega))
  replace hz26 : At Wz71 Wz15.heap.size (.cells #[.int .i64 p, .int .i64 n0, .int .i64 n1, .int .i64 n2, .slice A5 RL.length c5] 27 (0, 0)) := pz72.at_
  refine hK' _ _ ⟨hB, hz5⟩ (fun _ => trivial) ?_
  clear hK' K' pz72
  refine y_oper 7 (by kernel_rfl) rfl rfl (fun K' hK' => ?_)
  refine wp_exec (some 7) rfl (.int .i64 0) (exec_assign _ rfl (.int .i64 0) rfl) ?_
  refine hK' _ _ ⟨hB, hz5⟩ (fun _ => trivial) ?_
  clear hK' K'
  go_frame
  refine y_done (by kernel_rfl) ?_ _
  go_wp2_with fail
  refine bodyPost_ret (results_at2 rfl _ _ (Wz15.heap.size) _ _ _ rfl _ rfl hz26 Try.underlying27 rfl 5 (by kernel_rfl) rfl) rfl ?_
  exact ⟨_, by rw [Hz.out, Hz.out, Hz.out, Hz.out, Hcode.out]; rfl, by rw [Hr.out]; exact ho.mono (by omega), hB⟩
theorem ckCode_cases (p a b c : Int) (xs : List Int) (q d e f : Int) (ys : List Int) : ckCode p a b c xs q d e f ys = 1 ∨ ckCode p a b c xs q d e f ys = 2 ∨ (ckCode p a b c xs q d e f ys = 0 ∧ tenB p a b c xs = true ∧ tenB q d e f ys = true ∧ p = q) := by
  unfold ckCode
  split
  · rename_i h1
    split
    · rename_i h2
      split
      · rename_i h3
        exact .inr (.inr ⟨rfl, h1, h2, h3⟩)
      · exact .inr (.inl rfl)
    · exact .inl rfl
  · exact .inl rfl
theorem implAddTensors_c (p a b c : Int) (A : Option Addr) (cap : Nat) (xs : List Int) (q d e f : Int) (B : Option Addr) (cap2 : Nat) (ys : List Int) (kk : Int) (w : World) (hr : RdI w A xs) (hn : xs.length ≤ 1048576) (hs : RdI w B ys) (hm : ys.length ≤ 1048576) :
    Calls Try.prog 19 #[.agg #[.int .i64 p, .int .i64 a, .int .i64 b, .int .i64 c, .slice A xs.length cap], .agg #[.int .i64 q, .int .i64 d, .int .i64 e, .int .i64 f, .slice B ys.length cap2], .int .i64 kk] w (ResT w (adZ p a b c xs q d e f ys kk p) (adZ p a b c xs q d e f ys kk a) (adZ p a b c xs q d e f ys kk b) (adZ p a b c xs q d e f ys kk c) (adR p a b c xs q d e f ys kk) (adCode p a b c xs q d e f ys kk)) := by
  rcases ckCode_cases p a b c xs q d e f ys with h | h | ⟨h, hx, hy, rfl⟩
  · exact implAdd_a p a b c A cap xs q d e f B cap2 ys kk w hr hn hs hm h
  · exact implAdd_b p a b c A cap xs q d e f B cap2 ys kk w hr hn hs hm h
  · cases hbx : (!(a == d && (b == e && c == f))) with
    | true => exact implAdd_c p a b c A cap xs _ d e f B cap2 ys kk w hr hn hs hm h hbx
    | false =>
      cases hk : inB kk p with
      | false => exact implAdd_d p a b c A cap xs _ d e f B cap2 ys kk w hr hn hs hm h hbx hk
      | true =>
        simp only [Bool.not_eq_false', Bool.and_eq_true, beq_iff_eq] at hbx
        obtain ⟨rfl, rfl, rfl⟩ := hbx
        obtain ⟨_, s0, s1, s2, _, _⟩ := tenB_parts hx
        obtain ⟨n0, rfl⟩ := Int.eq_ofNat_of_zero_le (show 0 ≤ a by have := sideB_in s0; omega)
        obtain ⟨n1, rfl⟩ := Int.eq_ofNat_of_zero_le (show 0 ≤ b by have := sideB_in s1; omega)
        obtain ⟨n2, rfl⟩ := Int.eq_ofNat_of_zero_le (show 0 ≤ c by have := sideB_in s2; omega)
        exact implAdd_y p n0 n1 n2 A cap xs B cap2 ys kk w hr hn hs hm hx hy hk
end Go.Proofs.Ytdgaphcpoincpaa
