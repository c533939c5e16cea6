/-
  spec.l08Put; lists of products that grow. (Made by mktwc.py.)
-/
import Derived.Test.YtnlidegmllcdhaaTw5
import Derived.Test.YtnlidegmllcdhaaDel3
import Derived.Test.YtnlidegmllcdhaaCs1
import Derived.Test.YtnlidegmllcdhaaNrm4
namespace Go.Proofs.Ytnlidegmllcdhaa
open Go.RowKit
set_option maxRecDepth 100000

theorem Own.rdN2 {n : Nat} {w : World} {lo : Nat} {v : Value} {qs : List (List Nat)} (h : Own w lo v qs) (he : qs.length = n) : ∃ A c, v = .slice A n c := by
  subst he
  rcases h.shp with ⟨rfl, h0⟩ | ⟨g, c, rfl⟩
  · exact ⟨none, 0, by rw [h0]⟩
  · exact ⟨_, _, rfl⟩
theorem grown_put {w W W' : World} {r : Option Nat} {g : Nat} {o : Obj} (h : w.grownBy W r) (hp : Put W W' g o) (hg : w.heap.size ≤ g) : w.grownBy W' r := by
  have hb : Below w.heap.size W W' := hp.below (Below.refl _ _) hg
  exact ⟨hb.os.trans h.os, hb.tape.trans h.tape, hb.output.trans h.output, Nat.le_trans h.size hb.size, fun k hk hne => (hb.block k hk).trans (h.block k hk hne)⟩
/-- An append of one product. -/
theorem wp_appP {o : Oper} {a : Act} {w : World} {K : Act → World → Prop} {Q : Exit → Act → World → Prop} (d : Option Tmp) (hd : o.dst = d) (s x : Operand) (ho : o.op = .call { callee := .builtin .append, args := #[s, x], argTypes := #[26, 26] })
    {lo : Nat} (sl : Value) (qs : List (List Nat)) (q : List Nat) (hs : a.eval s = sl) (hown : Own w lo sl qs) (g : Nat) (hx : a.eval x = .slice (some ⟨g, 0, none⟩) 1 1) (hg : At w g (.cells (u8s q) 58 (0, 0))) (hq : q.length = 27) (hle : qs.length ≤ 1000000) (hlo : lo ≤ w.heap.size)
    (h : ∀ v' w', Own w' lo v' (qs ++ [q]) → w.grownBy w' sl.ownBlock → K (a.put d v') w') : Oper.wp Try.prog o a w K Q := by
  obtain ⟨i0, hi, hz0, hz1, hz2⟩ := info_parts infoProd
  refine wp_append' d hd s x 26 ho lo 58 i0 (.agg (u8s (List.replicate 27 0))) 27 27 Try.underlying26 hi hz0 hz1 hz2 rfl (by decide) sl _ _ hs hown ⟨g, 0, none⟩ 1 1 (u8s q).toList hx (by rw [Array.length_toList, u8s_size, hq]) ?_ (u8s_one q) (by unfold maxLen; omega) (by omega) hlo ?_
  · intro j u hu
    rw [add_none, Nat.zero_add, hg.at_ j, ← Array.getElem?_toList]
    exact hu
  · intro v1 w8 own8 gr8 _
    refine h v1 w8 ?_ gr8
    unfold Own
    rw [u8s_snoc, List.length_append]
    exact own8
theorem exec_prodC {o : Oper} {a : Act} {w : World} (x y z : Operand) (ho : o.op = .build 58 #[(0, x), (1, y), (2, z)]) (p q r : List Nat)
    (hx : a.eval x = .agg (u8s p)) (hy : a.eval y = .agg (u8s q)) (hz : a.eval z = .agg (u8s r)) (hp : p.length = 9) (hq : q.length = 9) (hr : r.length = 9) :
    (execOp a.eval o).run Try.prog w = .ok (.value (.agg (u8s (cat3 p q r)))) w := exec_prod x y z ho p q r hx hy hz hp hq hr
/-- A list with a product behind it, if none of its forms is 0. -/
def putL (qs : List (List Nat)) (q : List Nat) : List (List Nat) := qs ++ (if nzB q = true then [q] else [])
theorem put_yes {q : List Nat} {qs : List (List Nat)} (h0 : zeroB (segm q 0 9) = false) (h1 : zeroB (segm q 9 9) = false) (h2 : zeroB (segm q 18 9) = false) : qs ++ [q] = putL qs q := by
  unfold putL
  rw [if_pos (by simp [nzB, h0, h1, h2])]
theorem put_no {q : List Nat} {qs : List (List Nat)} (h : nzB q = false) : qs = putL qs q := by
  unfold putL
  rw [h]; simp

/-- A series with a number in the place of e, as the model makes it: from the greatest power down. -/
def hkS (p x : Int) (s : List Nat) (c : Nat) : Nat → Int
  | 0 => 0
  | k + 1 => (hkS p x s c k * x + ((s[c * 4 + (3 - k)]?.getD 0 : Nat) : Int)) % p
theorem hkS_b {p : Int} (x : Int) (s : List Nat) (c : Nat) (hp : 2 ≤ p ∧ p ≤ 5) (k : Nat) : 0 ≤ hkS p x s c k ∧ hkS p x s c k ≤ 4 := by
  cases k with
  | zero => simp [hkS]
  | succ k =>
    simp only [hkS]
    have h1 := Int.emod_nonneg (hkS p x s c k * x + ((s[c * 4 + (3 - k)]?.getD 0 : Nat) : Int)) (show p ≠ 0 by omega)
    have h2 := Int.emod_lt_of_pos (hkS p x s c k * x + ((s[c * 4 + (3 - k)]?.getD 0 : Nat) : Int)) (show 0 < p by omega)
    omega
def valF (p x : Int) (s : List Nat) : List Nat := (List.range 9).map fun c => (hkS p x s c 4).toNat
theorem valF_len (p x : Int) (s : List Nat) : (valF p x s).length = 9 := by simp [valF]
theorem valF_get (p x : Int) (s : List Nat) {c : Nat} (hc : c < 9) : (valF p x s)[c]?.getD 0 = (hkS p x s c 4).toNat := by simp [valF, hc]
theorem valF_bytes {p : Int} (x : Int) (s : List Nat) (hp : 2 ≤ p ∧ p ≤ 5) : Bytes 9 (valF p x s) := ⟨valF_len p x s, fun n hn => by
  obtain ⟨c, _, rfl⟩ := List.mem_map.1 hn
  have := (hkS_b x s c hp 4).2
  omega⟩
theorem vm_add (a b p : Int) : (a % p + b) % p = (a + b) % p := by rw [Int.add_emod (a % p), Int.emod_emod, ← Int.add_emod]
theorem vm_mul (a v p : Int) : (a % p * v) % p = (a * v) % p := by rw [Int.mul_emod (a % p), Int.emod_emod, ← Int.mul_emod]
theorem vm_ma (a v b p : Int) : (a % p * v + b) % p = (a * v + b) % p := by rw [Int.add_emod, vm_mul, ← Int.add_emod]
theorem hv_poly (p x a b c d : Int) : ((((0 * x + d) % p * x + c) % p * x + b) % p * x + a) % p = (((((0 + 1 * a) % p) + (1 * x) * b) % p + (1 * x * x) * c) % p + (1 * x * x * x) * d) % p := by
  rw [vm_ma]
  rw [show (((0 * x + d) % p * x + c) % p * x + b) * x + a = ((0 * x + d) % p * x + c) % p * (x * x) + (b * x + a) by grind, vm_ma]
  rw [show ((0 * x + d) % p * x + c) * (x * x) + (b * x + a) = (0 * x + d) % p * (x * x * x) + (c * (x * x) + b * x + a) by grind, vm_ma]
  rw [vm_add]
  rw [show ((0 + 1 * a) % p + 1 * x * b) % p + 1 * x * x * c + 1 * x * x * x * d = ((0 + 1 * a) % p + 1 * x * b) % p + (1 * x * x * c + 1 * x * x * x * d) by grind, vm_add]
  rw [show (0 + 1 * a) % p + 1 * x * b + (1 * x * x * c + 1 * x * x * x * d) = (0 + 1 * a) % p + (1 * x * b + 1 * x * x * c + 1 * x * x * x * d) by grind, vm_add]
  congr 1
  grind
/-- The same as the program makes it: from the least power up. -/
def vIL (p x : Int) (s : List Nat) : Nat → List Nat
  | 0 => List.replicate 9 0
  | i + 1 => adF p (powI x i) (vIL p x s i) (partL s i)
theorem vIL_len (p x : Int) (s : List Nat) (i : Nat) : (vIL p x s i).length = 9 := by
  cases i with
  | zero => simp [vIL]
  | succ i => exact adF_len _ _ _ _
theorem vIL_bytes {p : Int} (x : Int) (s : List Nat) (hp : 2 ≤ p ∧ p ≤ 5) (i : Nat) : Bytes 9 (vIL p x s i) := by
  cases i with
  | zero => exact Bytes.zeros 9
  | succ i => exact adF_bytes _ _ _ (by omega) hp.2
theorem vIL_val {p : Int} (x : Int) (s : List Nat) (hp : 2 ≤ p ∧ p ≤ 5) : vIL p x s 4 = valF p x s := by
  refine eq_of_getD (vIL_len _ _ _ _) (valF_len _ _ _) fun c hc => ?_
  rw [valF_get _ _ _ hc]
  have hp0 : 0 < p := by omega
  have h : (((vIL p x s 4)[c]?.getD 0 : Nat) : Int) = hkS p x s c 4 := by
    simp only [vIL]
    rw [adF_get _ _ _ _ hc, ad1_cast _ _ _ hp0, adF_get _ _ _ _ hc, ad1_cast _ _ _ hp0, adF_get _ _ _ _ hc, ad1_cast _ _ _ hp0, adF_get _ _ _ _ hc, ad1_cast _ _ _ hp0]
    rw [partL_get _ _ _ hc, partL_get _ _ _ hc, partL_get _ _ _ hc, partL_get _ _ _ hc, List.getElem?_replicate, if_pos hc]
    simp only [hkS, powI, Option.getD_some]
    exact (hv_poly p x _ _ _ _).symm
  omega
theorem powI_b0 {v : Int} (h : 0 ≤ v) (h2 : v ≤ 4) {i : Nat} (hi : i ≤ 4) : 0 ≤ powI v i ∧ powI v i ≤ 256 := by
  have hv : v = 0 ∨ v = 1 ∨ v = 2 ∨ v = 3 ∨ v = 4 := by omega
  have hi : i = 0 ∨ i = 1 ∨ i = 2 ∨ i = 3 ∨ i = 4 := by omega
  rcases hv with rfl | rfl | rfl | rfl | rfl <;> rcases hi with rfl | rfl | rfl | rfl | rfl <;> simp [powI]
def valP (p x : Int) (t : List Nat) : List Nat := cat3 (valF p x (segm t 0 36)) (valF p x (segm t 36 36)) (valF p x (segm t 72 36))
theorem valP_bytes {p : Int} (x : Int) (t : List Nat) (hp : 2 ≤ p ∧ p ≤ 5) : Bytes 27 (valP p x t) := bytes3 (valF_bytes x _ hp) (valF_bytes x _ hp) (valF_bytes x _ hp)
def vobCode (p n m k : Int) (ts : List (List Nat)) (v : Int) : Int := if borderB p n m k ts = true then (if (decide (0 ≤ v) && decide (v ≤ p - 1)) = true then 0 else 2) else 1
def vobL (p x : Int) (ts : List (List Nat)) : List (List Nat) := (ts.map (valP p x)).filter nzB
theorem primeB_b2 {p : Int} (h : primeB p = true) : 2 ≤ p ∧ p ≤ 5 := by
  simp only [primeB, Bool.or_eq_true, beq_iff_eq] at h
  omega
theorem filt_step {f : List Nat → List Nat} {ts : List (List Nat)} {i : Nat} (hi : i < ts.length) : putL (((ts.take i).map f).filter nzB) (f ts[i]) = ((ts.take (i + 1)).map f).filter nzB := by
  unfold putL
  rw [List.take_add_one, List.getElem?_eq_getElem hi, List.map_append, List.filter_append]
  congr 1
  simp only [Option.toList_some, List.map_cons, List.map_nil, List.filter_cons, List.filter_nil]
theorem filt_len {f : List Nat → List Nat} {ts : List (List Nat)} {i : Nat} (hl : ts.length ≤ 30) : (((ts.take i).map f).filter nzB).length ≤ 30 := by
  have h := List.length_filter_le nzB ((ts.take i).map f)
  rw [List.length_map, List.length_take] at h
  omega
theorem exec_index_arrZ {P : Program} {o : Oper} {a : Act} {w : World} (ty e : TypeId) (x i : Operand) (ho : o.op = .indexAddr ty x i) (b off len k : Nat) (z : Int) (hx : a.eval x = .pointer (some ⟨b, off, none⟩)) (hi : a.eval i = .int .i64 z) (hz : z = (k : Int)) (hu : P.underlying ty = some (.array len e)) (hs : (P.info? e).map (·.size) = some 1) (hlt : k < len) : (execOp a.eval o).run P w = .ok (.value (.pointer (some ⟨b, off + k, none⟩))) w := by
  subst hz
  exact exec_index_arr1 ty e x i ho b off len k hx hi hu hs hlt
theorem exec_conv8z {o : Oper} {a : Act} {w : World} (x : Operand) (ho : o.op = .convert 2 5 x) (m : Int) (y : Nat) (hx : a.eval x = .int .i64 m) (hy : y < 256) (hm : m = (y : Int)) : (execOp a.eval o).run Try.prog w = .ok (.value (.int .u8 (y : Int))) w := by
  subst hm
  have hw : IntKind.u8.wrap (y : Int) = (y : Int) := by unfold IntKind.wrap; simp [IntKind.signed, IntKind.bits]; omega
  unfold execOp
  simp only [ho, hx]
  simp [go_sem, Try.underlying5, Try.underlying2, hw]
theorem cut_world2 {n : Nat} {w W : World} (_ : Below n w W) : ∃ x : World, x = W := ⟨W, rfl⟩
theorem cellY {w : World} {g i x : Nat} {l : List Nat} {t : TypeId} (h : At w g (.cells (u8s l) t (0, 0))) (hi : i < l.length) (hx : l[i]?.getD 0 = x) : w.cell? ⟨g, i, none⟩ = some (.int .u8 (x : Int)) := by
  rw [← hx]
  exact h.cell hi
attribute [local irreducible] wpList
set_option maxHeartbeats 4000000 in
theorem put_a (p n m k : Int) (A : Option Addr) (l c : Nat) (qs : List (List Nat)) (q : List Nat) (hq : Bytes 27 q) (lo : Nat) (w : World) (ho : Own w lo (.slice A l c) qs) (hle : qs.length ≤ 1000000) (hlo : lo ≤ w.heap.size) (z0 : zeroB (segm q 0 9) = true) :
    Calls Try.prog 26 #[.agg #[.int .i64 p, .int .i64 n, .int .i64 m, .int .i64 k, .slice A l c], .agg (u8s q)] w (fun e w' => ∃ v', e = .returned (.agg #[.int .i64 p, .int .i64 n, .int .i64 m, .int .i64 k, v']) ∧ Own w' lo v' (putL qs q) ∧ w.grownBy w' (Value.slice A l c).ownBlock) := by
  have hB := Below.refl w.heap.size w
  have _u0 := hle
  have _u1 := hlo
  clear _u0 _u1
  have HY : Hid (qs = putL qs q) := Lib.hid (put_no (by simp [nzB, z0]))
  have Z0 := Lib.hid z0
  clear z0
  have hG := grown_refl w (Value.slice A l c).ownBlock
  clear hB
  go_enter Try.func26, Try.ntmps26
  go_upto_region 0 with (fail)
  refine wp_region_lit ?_
  refine ls_op rfl (fun K' hK' => ?_)
  have lz1 := hG.size
  have naz6 := ho.away_new
  refine wp_new (some 2) rfl (exec_box 28 _ rfl (#[.int .i64 p, .int .i64 n, .int .i64 m, .int .i64 k, .slice A l c]) rfl) (fun Wz2 nnz3 => ?_)
  have bz4 := nnz3.below (Below.refl _ _) (Nat.le_refl _)
  replace hG := grown_trans hG (grown_below bz4 _)
  replace ho := ho.below bz4
  have hz5 : At Wz2 w.heap.size (.cells #[.int .i64 p, .int .i64 n, .int .i64 m, .int .i64 k, .slice A l c] 28 (0, 0)) := nnz3.at_
  refine hK' _ _ ?_
  clear hK' K' nnz3 bz4
  go_frame
  refine ls_op rfl (fun K' hK' => ?_)
  have lz7 := hG.size
  have lz8 := hz5.lt
  have naz13 := ho.away_new
  refine wp_new (some 3) rfl (exec_box 58 _ rfl (u8s (q)) rfl) (fun Wz9 nnz10 => ?_)
  have bz11 := nnz10.below (Below.refl _ _) (Nat.le_refl _)
  replace hG := grown_trans hG (grown_below bz11 _)
  replace ho := ho.below bz11
  replace hz5 := hz5.after bz11
  have hz12 : At Wz9 Wz2.heap.size (.cells (u8s (q)) 58 (0, 0)) := nnz10.at_
  refine hK' _ _ ?_
  clear hK' K' nnz10 bz11
  go_frame
  refine ls_op rfl (fun K' hK' => ?_)
  have lz14 := hG.size
  have lz15 := hz5.lt
  have lz16 := hz12.lt
  have naz21 := ho.away_new
  refine wp_new (some 4) rfl (al_impl_Scheme rfl) (fun Wz17 nnz18 => ?_)
  have bz19 := nnz18.below (Below.refl _ _) (Nat.le_refl _)
  replace hG := grown_trans hG (grown_below bz19 _)
  replace ho := ho.below bz19
  replace hz5 := hz5.after bz19
  replace hz12 := hz12.after bz19
  have hz20 : At Wz17 Wz9.heap.size (.cells #[.int .i64 0, .int .i64 0, .int .i64 0, .int .i64 0, .slice none 0 0] 28 (0, 0)) := nnz18.at_
  refine hK' _ _ ?_
  clear hK' K' nnz18 bz19
  go_frame
  refine wpList_nil ?_
  go_upto_region 1 with (fail)
  refine wp_region_lit ?_
  refine ls_ex (some 5) (.pointer (some ⟨Wz2.heap.size, 0, none⟩)) rfl rfl (exec_fieldAddr 58 _ 0 rfl _ (by kernel_rfl)) ?_
  go_frame
  refine ls_ex (some 6) (.agg (u8s (segm (q) 0 9))) rfl rfl (exec_load_seg 55 _ rfl Wz2.heap.size (0) rfl _ (q) _ 9 hz12 Try.underlying55 rfl (by kernel_rfl) (by rw [hq.len]; omega) (segm (q) 0 9) rfl) ?_
  go_frame
  refine ls_op rfl (fun K' hK' => ?_)
  have lz24 := hG.size
  have lz25 := hz5.lt
  have lz26 := hz12.lt
  have lz27 := hz20.lt
  refine wp_call1 (some 7) rfl 50 _ _ rfl (fun args w => by kernel_rfl) _ rfl _ (l01Zero_c (segm (q) 0 9) (segm_bytes hq (by omega)) _) (fun e Wz22 h => ?_)
  obtain ⟨rfl, bz23⟩ := h
  replace hG := grown_trans hG (grown_below bz23 _)
  replace ho := ho.below bz23
  replace hz5 := hz5.after bz23
  replace hz12 := hz12.after bz23
  replace hz20 := hz20.after bz23
  rw [Z0.out]
  clear bz23
  refine ⟨_, rfl, ?_⟩
  refine hK' _ _ ?_
  clear hK' K'
  go_frame
  refine ls_ex (some 8) (.bool false) rfl rfl (exec_not _ _ rfl true rfl) ?_
  go_frame
  refine ls_ex (some 9) (.bool false) rfl rfl (exec_move _ rfl (.bool false) rfl) ?_
  go_frame
  refine ls_skip_g (some 10) rfl rfl ?_
  go_frame
  refine ls_skip_g (some 11) rfl rfl ?_
  go_frame
  refine ls_skip_g (some 12) rfl rfl ?_
  go_frame
  refine ls_skip_g (some 13) rfl rfl ?_
  go_frame
  refine ls_ex (some 14) (.bool false) rfl rfl (exec_pick _ _ _ rfl false rfl (.bool false) rfl) ?_
  go_frame
  refine ls_ex (some 15) (.bool false) rfl rfl (exec_move _ rfl (.bool false) rfl) ?_
  go_frame
  refine ls_skip_g (some 16) rfl rfl ?_
  go_frame
  refine ls_skip_g (some 17) rfl rfl ?_
  go_frame
  refine ls_skip_g (some 18) rfl rfl ?_
  go_frame
  refine ls_skip_g (some 19) rfl rfl ?_
  go_frame
  refine ls_ex (some 20) (.bool false) rfl rfl (exec_pick _ _ _ rfl false rfl (.bool false) rfl) ?_
  go_frame
  refine wpList_nil ?_
  go_upto_region 3 with (fail)
  refine wp_region_lit ?_
  refine ls_ex (some 27) (.agg #[.int .i64 p, .int .i64 n, .int .i64 m, .int .i64 k, .slice A l c]) rfl rfl (exec_load_all 28 _ rfl w.heap.size rfl _ _ _ hz5 Try.underlying28 rfl 5 (by kernel_rfl) rfl) ?_
  go_frame
  refine ls_op rfl (fun K' hK' => ?_)
  refine wp_store_all 28 _ _ rfl rfl Wz9.heap.size rfl #[.int .i64 p, .int .i64 n, .int .i64 m, .int .i64 k, .slice A l c] rfl _ _ hz20 5 (by kernel_rfl) rfl rfl (one5 _ _ _ _ _ _ _) (fun Wz28 pz29 => ?_)
  replace hG := grown_put hG pz29 (by omega)
  replace ho := ho.put pz29 naz21
  replace hz5 := pz29.other hz5 (by omega)
  replace hz12 := pz29.other hz12 (by omega)
  replace hz20 : At Wz28 Wz9.heap.size (.cells #[.int .i64 p, .int .i64 n, .int .i64 m, .int .i64 k, .slice A l c] 28 (0, 0)) := pz29.at_
  refine hK' _ _ ?_
  clear hK' K' pz29
  refine wpList_nil ?_
  go_wp2_with fail
  refine bodyPost_ret (results_at rfl _ _ Wz9.heap.size _ _ _ rfl hz20 Try.underlying28 rfl 5 (by kernel_rfl) rfl) rfl ?_
  exact ⟨_, rfl, by rw [← HY.out]; exact ho, hG⟩
set_option maxHeartbeats 4000000 in
theorem put_b (p n m k : Int) (A : Option Addr) (l c : Nat) (qs : List (List Nat)) (q : List Nat) (hq : Bytes 27 q) (lo : Nat) (w : World) (ho : Own w lo (.slice A l c) qs) (hle : qs.length ≤ 1000000) (hlo : lo ≤ w.heap.size) (z0 : zeroB (segm q 0 9) = false) (z1 : zeroB (segm q 9 9) = true) :
    Calls Try.prog 26 #[.agg #[.int .i64 p, .int .i64 n, .int .i64 m, .int .i64 k, .slice A l c], .agg (u8s q)] w (fun e w' => ∃ v', e = .returned (.agg #[.int .i64 p, .int .i64 n, .int .i64 m, .int .i64 k, v']) ∧ Own w' lo v' (putL qs q) ∧ w.grownBy w' (Value.slice A l c).ownBlock) := by
  have hB := Below.refl w.heap.size w
  have _u0 := hle
  have _u1 := hlo
  clear _u0 _u1
  have HY : Hid (qs = putL qs q) := Lib.hid (put_no (by simp [nzB, z0, z1]))
  have Z0 := Lib.hid z0
  have Z1 := Lib.hid z1
  clear z0 z1
  have hG := grown_refl w (Value.slice A l c).ownBlock
  clear hB
  go_enter Try.func26, Try.ntmps26
  go_upto_region 0 with (fail)
  refine wp_region_lit ?_
  refine ls_op rfl (fun K' hK' => ?_)
  have lz1 := hG.size
  have naz6 := ho.away_new
  refine wp_new (some 2) rfl (exec_box 28 _ rfl (#[.int .i64 p, .int .i64 n, .int .i64 m, .int .i64 k, .slice A l c]) rfl) (fun Wz2 nnz3 => ?_)
  have bz4 := nnz3.below (Below.refl _ _) (Nat.le_refl _)
  replace hG := grown_trans hG (grown_below bz4 _)
  replace ho := ho.below bz4
  have hz5 : At Wz2 w.heap.size (.cells #[.int .i64 p, .int .i64 n, .int .i64 m, .int .i64 k, .slice A l c] 28 (0, 0)) := nnz3.at_
  refine hK' _ _ ?_
  clear hK' K' nnz3 bz4
  go_frame
  refine ls_op rfl (fun K' hK' => ?_)
  have lz7 := hG.size
  have lz8 := hz5.lt
  have naz13 := ho.away_new
  refine wp_new (some 3) rfl (exec_box 58 _ rfl (u8s (q)) rfl) (fun Wz9 nnz10 => ?_)
  have bz11 := nnz10.below (Below.refl _ _) (Nat.le_refl _)
  replace hG := grown_trans hG (grown_below bz11 _)
  replace ho := ho.below bz11
  replace hz5 := hz5.after bz11
  have hz12 : At Wz9 Wz2.heap.size (.cells (u8s (q)) 58 (0, 0)) := nnz10.at_
  refine hK' _ _ ?_
  clear hK' K' nnz10 bz11
  go_frame
  refine ls_op rfl (fun K' hK' => ?_)
  have lz14 := hG.size
  have lz15 := hz5.lt
  have lz16 := hz12.lt
  have naz21 := ho.away_new
  refine wp_new (some 4) rfl (al_impl_Scheme rfl) (fun Wz17 nnz18 => ?_)
  have bz19 := nnz18.below (Below.refl _ _) (Nat.le_refl _)
  replace hG := grown_trans hG (grown_below bz19 _)
  replace ho := ho.below bz19
  replace hz5 := hz5.after bz19
  replace hz12 := hz12.after bz19
  have hz20 : At Wz17 Wz9.heap.size (.cells #[.int .i64 0, .int .i64 0, .int .i64 0, .int .i64 0, .slice none 0 0] 28 (0, 0)) := nnz18.at_
  refine hK' _ _ ?_
  clear hK' K' nnz18 bz19
  go_frame
  refine wpList_nil ?_
  go_upto_region 1 with (fail)
  refine wp_region_lit ?_
  refine ls_ex (some 5) (.pointer (some ⟨Wz2.heap.size, 0, none⟩)) rfl rfl (exec_fieldAddr 58 _ 0 rfl _ (by kernel_rfl)) ?_
  go_frame
  refine ls_ex (some 6) (.agg (u8s (segm (q) 0 9))) rfl rfl (exec_load_seg 55 _ rfl Wz2.heap.size (0) rfl _ (q) _ 9 hz12 Try.underlying55 rfl (by kernel_rfl) (by rw [hq.len]; omega) (segm (q) 0 9) rfl) ?_
  go_frame
  refine ls_op rfl (fun K' hK' => ?_)
  have lz24 := hG.size
  have lz25 := hz5.lt
  have lz26 := hz12.lt
  have lz27 := hz20.lt
  refine wp_call1 (some 7) rfl 50 _ _ rfl (fun args w => by kernel_rfl) _ rfl _ (l01Zero_c (segm (q) 0 9) (segm_bytes hq (by omega)) _) (fun e Wz22 h => ?_)
  obtain ⟨rfl, bz23⟩ := h
  replace hG := grown_trans hG (grown_below bz23 _)
  replace ho := ho.below bz23
  replace hz5 := hz5.after bz23
  replace hz12 := hz12.after bz23
  replace hz20 := hz20.after bz23
  rw [Z0.out]
  clear bz23
  refine ⟨_, rfl, ?_⟩
  refine hK' _ _ ?_
  clear hK' K'
  go_frame
  refine ls_ex (some 8) (.bool true) rfl rfl (exec_not _ _ rfl false rfl) ?_
  go_frame
  refine ls_ex (some 9) (.bool true) rfl rfl (exec_move _ rfl (.bool true) rfl) ?_
  go_frame
  refine ls_ex_g (some 10) (.pointer (some ⟨Wz2.heap.size, 9, none⟩)) rfl rfl (exec_fieldAddr 58 _ 1 rfl _ (by kernel_rfl)) ?_
  go_frame
  refine ls_ex_g (some 11) (.agg (u8s (segm (q) 9 9))) rfl rfl (exec_load_seg 55 _ rfl Wz2.heap.size (9) rfl _ (q) _ 9 hz12 Try.underlying55 rfl (by kernel_rfl) (by rw [hq.len]; omega) (segm (q) 9 9) rfl) ?_
  go_frame
  refine ls_op_g rfl (fun K' hK' => ?_)
  have lz30 := hG.size
  have lz31 := hz5.lt
  have lz32 := hz12.lt
  have lz33 := hz20.lt
  refine wp_call1 (some 12) rfl 50 _ _ rfl (fun args w => by kernel_rfl) _ rfl _ (l01Zero_c (segm (q) 9 9) (segm_bytes hq (by omega)) _) (fun e Wz28 h => ?_)
  obtain ⟨rfl, bz29⟩ := h
  replace hG := grown_trans hG (grown_below bz29 _)
  replace ho := ho.below bz29
  replace hz5 := hz5.after bz29
  replace hz12 := hz12.after bz29
  replace hz20 := hz20.after bz29
  rw [Z1.out]
  clear bz29
  refine ⟨_, rfl, ?_⟩
  refine hK' _ _ ?_
  clear hK' K'
  go_frame
  refine ls_ex_g (some 13) (.bool false) rfl rfl (exec_not _ _ rfl true rfl) ?_
  go_frame
  refine ls_ex (some 14) (.bool false) rfl rfl (exec_pick _ _ _ rfl true rfl (.bool false) rfl) ?_
  go_frame
  refine ls_ex (some 15) (.bool false) rfl rfl (exec_move _ rfl (.bool false) rfl) ?_
  go_frame
  refine ls_skip_g (some 16) rfl rfl ?_
  go_frame
  refine ls_skip_g (some 17) rfl rfl ?_
  go_frame
  refine ls_skip_g (some 18) rfl rfl ?_
  go_frame
  refine ls_skip_g (some 19) rfl rfl ?_
  go_frame
  refine ls_ex (some 20) (.bool false) rfl rfl (exec_pick _ _ _ rfl false rfl (.bool false) rfl) ?_
  go_frame
  refine wpList_nil ?_
  go_upto_region 3 with (fail)
  refine wp_region_lit ?_
  refine ls_ex (some 27) (.agg #[.int .i64 p, .int .i64 n, .int .i64 m, .int .i64 k, .slice A l c]) rfl rfl (exec_load_all 28 _ rfl w.heap.size rfl _ _ _ hz5 Try.underlying28 rfl 5 (by kernel_rfl) rfl) ?_
  go_frame
  refine ls_op rfl (fun K' hK' => ?_)
  refine wp_store_all 28 _ _ rfl rfl Wz9.heap.size rfl #[.int .i64 p, .int .i64 n, .int .i64 m, .int .i64 k, .slice A l c] rfl _ _ hz20 5 (by kernel_rfl) rfl rfl (one5 _ _ _ _ _ _ _) (fun Wz34 pz35 => ?_)
  replace hG := grown_put hG pz35 (by omega)
  replace ho := ho.put pz35 naz21
  replace hz5 := pz35.other hz5 (by omega)
  replace hz12 := pz35.other hz12 (by omega)
  replace hz20 : At Wz34 Wz9.heap.size (.cells #[.int .i64 p, .int .i64 n, .int .i64 m, .int .i64 k, .slice A l c] 28 (0, 0)) := pz35.at_
  refine hK' _ _ ?_
  clear hK' K' pz35
  refine wpList_nil ?_
  go_wp2_with fail
  refine bodyPost_ret (results_at rfl _ _ Wz9.heap.size _ _ _ rfl hz20 Try.underlying28 rfl 5 (by kernel_rfl) rfl) rfl ?_
  exact ⟨_, rfl, by rw [← HY.out]; exact ho, hG⟩
set_option maxHeartbeats 4000000 in
theorem put_c (p n m k : Int) (A : Option Addr) (l c : Nat) (qs : List (List Nat)) (q : List Nat) (hq : Bytes 27 q) (lo : Nat) (w : World) (ho : Own w lo (.slice A l c) qs) (hle : qs.length ≤ 1000000) (hlo : lo ≤ w.heap.size) (z0 : zeroB (segm q 0 9) = false) (z1 : zeroB (segm q 9 9) = false) (z2 : zeroB (segm q 18 9) = true) :
    Calls Try.prog 26 #[.agg #[.int .i64 p, .int .i64 n, .int .i64 m, .int .i64 k, .slice A l c], .agg (u8s q)] w (fun e w' => ∃ v', e = .returned (.agg #[.int .i64 p, .int .i64 n, .int .i64 m, .int .i64 k, v']) ∧ Own w' lo v' (putL qs q) ∧ w.grownBy w' (Value.slice A l c).ownBlock) := by
  have hB := Below.refl w.heap.size w
  have _u0 := hle
  have _u1 := hlo
  clear _u0 _u1
  have HY : Hid (qs = putL qs q) := Lib.hid (put_no (by simp [nzB, z0, z1, z2]))
  have Z0 := Lib.hid z0
  have Z1 := Lib.hid z1
  have Z2 := Lib.hid z2
  clear z0 z1 z2
  have hG := grown_refl w (Value.slice A l c).ownBlock
  clear hB
  go_enter Try.func26, Try.ntmps26
  go_upto_region 0 with (fail)
  refine wp_region_lit ?_
  refine ls_op rfl (fun K' hK' => ?_)
  have lz1 := hG.size
  have naz6 := ho.away_new
  refine wp_new (some 2) rfl (exec_box 28 _ rfl (#[.int .i64 p, .int .i64 n, .int .i64 m, .int .i64 k, .slice A l c]) rfl) (fun Wz2 nnz3 => ?_)
  have bz4 := nnz3.below (Below.refl _ _) (Nat.le_refl _)
  replace hG := grown_trans hG (grown_below bz4 _)
  replace ho := ho.below bz4
  have hz5 : At Wz2 w.heap.size (.cells #[.int .i64 p, .int .i64 n, .int .i64 m, .int .i64 k, .slice A l c] 28 (0, 0)) := nnz3.at_
  refine hK' _ _ ?_
  clear hK' K' nnz3 bz4
  go_frame
  refine ls_op rfl (fun K' hK' => ?_)
  have lz7 := hG.size
  have lz8 := hz5.lt
  have naz13 := ho.away_new
  refine wp_new (some 3) rfl (exec_box 58 _ rfl (u8s (q)) rfl) (fun Wz9 nnz10 => ?_)
  have bz11 := nnz10.below (Below.refl _ _) (Nat.le_refl _)
  replace hG := grown_trans hG (grown_below bz11 _)
  replace ho := ho.below bz11
  replace hz5 := hz5.after bz11
  have hz12 : At Wz9 Wz2.heap.size (.cells (u8s (q)) 58 (0, 0)) := nnz10.at_
  refine hK' _ _ ?_
  clear hK' K' nnz10 bz11
  go_frame
  refine ls_op rfl (fun K' hK' => ?_)
  have lz14 := hG.size
  have lz15 := hz5.lt
  have lz16 := hz12.lt
  have naz21 := ho.away_new
  refine wp_new (some 4) rfl (al_impl_Scheme rfl) (fun Wz17 nnz18 => ?_)
  have bz19 := nnz18.below (Below.refl _ _) (Nat.le_refl _)
  replace hG := grown_trans hG (grown_below bz19 _)
  replace ho := ho.below bz19
  replace hz5 := hz5.after bz19
  replace hz12 := hz12.after bz19
  have hz20 : At Wz17 Wz9.heap.size (.cells #[.int .i64 0, .int .i64 0, .int .i64 0, .int .i64 0, .slice none 0 0] 28 (0, 0)) := nnz18.at_
  refine hK' _ _ ?_
  clear hK' K' nnz18 bz19
  go_frame
  refine wpList_nil ?_
  go_upto_region 1 with (fail)
  refine wp_region_lit ?_
  refine ls_ex (some 5) (.pointer (some ⟨Wz2.heap.size, 0, none⟩)) rfl rfl (exec_fieldAddr 58 _ 0 rfl _ (by kernel_rfl)) ?_
  go_frame
  refine ls_ex (some 6) (.agg (u8s (segm (q) 0 9))) rfl rfl (exec_load_seg 55 _ rfl Wz2.heap.size (0) rfl _ (q) _ 9 hz12 Try.underlying55 rfl (by kernel_rfl) (by rw [hq.len]; omega) (segm (q) 0 9) rfl) ?_
  go_frame
  refine ls_op rfl (fun K' hK' => ?_)
  have lz24 := hG.size
  have lz25 := hz5.lt
  have lz26 := hz12.lt
  have lz27 := hz20.lt
  refine wp_call1 (some 7) rfl 50 _ _ rfl (fun args w => by kernel_rfl) _ rfl _ (l01Zero_c (segm (q) 0 9) (segm_bytes hq (by omega)) _) (fun e Wz22 h => ?_)
  obtain ⟨rfl, bz23⟩ := h
  replace hG := grown_trans hG (grown_below bz23 _)
  replace ho := ho.below bz23
  replace hz5 := hz5.after bz23
  replace hz12 := hz12.after bz23
  replace hz20 := hz20.after bz23
  rw [Z0.out]
  clear bz23
  refine ⟨_, rfl, ?_⟩
  refine hK' _ _ ?_
  clear hK' K'
  go_frame
  refine ls_ex (some 8) (.bool true) rfl rfl (exec_not _ _ rfl false rfl) ?_
  go_frame
  refine ls_ex (some 9) (.bool true) rfl rfl (exec_move _ rfl (.bool true) rfl) ?_
  go_frame
  refine ls_ex_g (some 10) (.pointer (some ⟨Wz2.heap.size, 9, none⟩)) rfl rfl (exec_fieldAddr 58 _ 1 rfl _ (by kernel_rfl)) ?_
  go_frame
  refine ls_ex_g (some 11) (.agg (u8s (segm (q) 9 9))) rfl rfl (exec_load_seg 55 _ rfl Wz2.heap.size (9) rfl _ (q) _ 9 hz12 Try.underlying55 rfl (by kernel_rfl) (by rw [hq.len]; omega) (segm (q) 9 9) rfl) ?_
  go_frame
  refine ls_op_g rfl (fun K' hK' => ?_)
  have lz30 := hG.size
  have lz31 := hz5.lt
  have lz32 := hz12.lt
  have lz33 := hz20.lt
  refine wp_call1 (some 12) rfl 50 _ _ rfl (fun args w => by kernel_rfl) _ rfl _ (l01Zero_c (segm (q) 9 9) (segm_bytes hq (by omega)) _) (fun e Wz28 h => ?_)
  obtain ⟨rfl, bz29⟩ := h
  replace hG := grown_trans hG (grown_below bz29 _)
  replace ho := ho.below bz29
  replace hz5 := hz5.after bz29
  replace hz12 := hz12.after bz29
  replace hz20 := hz20.after bz29
  rw [Z1.out]
  clear bz29
  refine ⟨_, rfl, ?_⟩
  refine hK' _ _ ?_
  clear hK' K'
  go_frame
  refine ls_ex_g (some 13) (.bool true) rfl rfl (exec_not _ _ rfl false rfl) ?_
  go_frame
  refine ls_ex (some 14) (.bool true) rfl rfl (exec_pick _ _ _ rfl true rfl (.bool true) rfl) ?_
  go_frame
  refine ls_ex (some 15) (.bool true) rfl rfl (exec_move _ rfl (.bool true) rfl) ?_
  go_frame
  refine ls_ex_g (some 16) (.pointer (some ⟨Wz2.heap.size, 18, none⟩)) rfl rfl (exec_fieldAddr 58 _ 2 rfl _ (by kernel_rfl)) ?_
  go_frame
  refine ls_ex_g (some 17) (.agg (u8s (segm (q) 18 9))) rfl rfl (exec_load_seg 55 _ rfl Wz2.heap.size (18) rfl _ (q) _ 9 hz12 Try.underlying55 rfl (by kernel_rfl) (by rw [hq.len]; omega) (segm (q) 18 9) rfl) ?_
  go_frame
  refine ls_op_g rfl (fun K' hK' => ?_)
  have lz36 := hG.size
  have lz37 := hz5.lt
  have lz38 := hz12.lt
  have lz39 := hz20.lt
  refine wp_call1 (some 18) rfl 50 _ _ rfl (fun args w => by kernel_rfl) _ rfl _ (l01Zero_c (segm (q) 18 9) (segm_bytes hq (by omega)) _) (fun e Wz34 h => ?_)
  obtain ⟨rfl, bz35⟩ := h
  replace hG := grown_trans hG (grown_below bz35 _)
  replace ho := ho.below bz35
  replace hz5 := hz5.after bz35
  replace hz12 := hz12.after bz35
  replace hz20 := hz20.after bz35
  rw [Z2.out]
  clear bz35
  refine ⟨_, rfl, ?_⟩
  refine hK' _ _ ?_
  clear hK' K'
  go_frame
  refine ls_ex_g (some 19) (.bool false) rfl rfl (exec_not _ _ rfl true rfl) ?_
  go_frame
  refine ls_ex (some 20) (.bool false) rfl rfl (exec_pick _ _ _ rfl true rfl (.bool false) rfl) ?_
  go_frame
  refine wpList_nil ?_
  go_upto_region 3 with (fail)
  refine wp_region_lit ?_
  refine ls_ex (some 27) (.agg #[.int .i64 p, .int .i64 n, .int .i64 m, .int .i64 k, .slice A l c]) rfl rfl (exec_load_all 28 _ rfl w.heap.size rfl _ _ _ hz5 Try.underlying28 rfl 5 (by kernel_rfl) rfl) ?_
  go_frame
  refine ls_op rfl (fun K' hK' => ?_)
  refine wp_store_all 28 _ _ rfl rfl Wz9.heap.size rfl #[.int .i64 p, .int .i64 n, .int .i64 m, .int .i64 k, .slice A l c] rfl _ _ hz20 5 (by kernel_rfl) rfl rfl (one5 _ _ _ _ _ _ _) (fun Wz40 pz41 => ?_)
  replace hG := grown_put hG pz41 (by omega)
  replace ho := ho.put pz41 naz21
  replace hz5 := pz41.other hz5 (by omega)
  replace hz12 := pz41.other hz12 (by omega)
  replace hz20 : At Wz40 Wz9.heap.size (.cells #[.int .i64 p, .int .i64 n, .int .i64 m, .int .i64 k, .slice A l c] 28 (0, 0)) := pz41.at_
  refine hK' _ _ ?_
  clear hK' K' pz41
  refine wpList_nil ?_
  go_wp2_with fail
  refine bodyPost_ret (results_at rfl _ _ Wz9.heap.size _ _ _ rfl hz20 Try.underlying28 rfl 5 (by kernel_rfl) rfl) rfl ?_
  exact ⟨_, rfl, by rw [← HY.out]; exact ho, hG⟩
set_option maxHeartbeats 4000000 in
theorem put_d (p n m k : Int) (A : Option Addr) (l c : Nat) (qs : List (List Nat)) (q : List Nat) (hq : Bytes 27 q) (lo : Nat) (w : World) (ho : Own w lo (.slice A l c) qs) (hle : qs.length ≤ 1000000) (hlo : lo ≤ w.heap.size) (z0 : zeroB (segm q 0 9) = false) (z1 : zeroB (segm q 9 9) = false) (z2 : zeroB (segm q 18 9) = false) :
    Calls Try.prog 26 #[.agg #[.int .i64 p, .int .i64 n, .int .i64 m, .int .i64 k, .slice A l c], .agg (u8s q)] w (fun e w' => ∃ v', e = .returned (.agg #[.int .i64 p, .int .i64 n, .int .i64 m, .int .i64 k, v']) ∧ Own w' lo v' (putL qs q) ∧ w.grownBy w' (Value.slice A l c).ownBlock) := by
  have hB := Below.refl w.heap.size w
  have HY : Hid (qs ++ [q] = putL qs q) := Lib.hid (put_yes z0 z1 z2)
  obtain ⟨N9, hN9⟩ : ∃ N, (putL qs q).length = N := ⟨_, rfl⟩
  have HN := Lib.hid hN9
  clear hN9
  have Z0 := Lib.hid z0
  have Z1 := Lib.hid z1
  have Z2 := Lib.hid z2
  clear z0 z1 z2
  have hG := grown_refl w (Value.slice A l c).ownBlock
  clear hB
  go_enter Try.func26, Try.ntmps26
  go_upto_region 0 with (fail)
  refine wp_region_lit ?_
  refine ls_op rfl (fun K' hK' => ?_)
  have lz1 := hG.size
  have naz6 := ho.away_new
  refine wp_new (some 2) rfl (exec_box 28 _ rfl (#[.int .i64 p, .int .i64 n, .int .i64 m, .int .i64 k, .slice A l c]) rfl) (fun Wz2 nnz3 => ?_)
  have bz4 := nnz3.below (Below.refl _ _) (Nat.le_refl _)
  replace hG := grown_trans hG (grown_below bz4 _)
  replace ho := ho.below bz4
  have hz5 : At Wz2 w.heap.size (.cells #[.int .i64 p, .int .i64 n, .int .i64 m, .int .i64 k, .slice A l c] 28 (0, 0)) := nnz3.at_
  refine hK' _ _ ?_
  clear hK' K' nnz3 bz4
  go_frame
  refine ls_op rfl (fun K' hK' => ?_)
  have lz7 := hG.size
  have lz8 := hz5.lt
  have naz13 := ho.away_new
  refine wp_new (some 3) rfl (exec_box 58 _ rfl (u8s (q)) rfl) (fun Wz9 nnz10 => ?_)
  have bz11 := nnz10.below (Below.refl _ _) (Nat.le_refl _)
  replace hG := grown_trans hG (grown_below bz11 _)
  replace ho := ho.below bz11
  replace hz5 := hz5.after bz11
  have hz12 : At Wz9 Wz2.heap.size (.cells (u8s (q)) 58 (0, 0)) := nnz10.at_
  refine hK' _ _ ?_
  clear hK' K' nnz10 bz11
  go_frame
  refine ls_op rfl (fun K' hK' => ?_)
  have lz14 := hG.size
  have lz15 := hz5.lt
  have lz16 := hz12.lt
  have naz21 := ho.away_new
  refine wp_new (some 4) rfl (al_impl_Scheme rfl) (fun Wz17 nnz18 => ?_)
  have bz19 := nnz18.below (Below.refl _ _) (Nat.le_refl _)
  replace hG := grown_trans hG (grown_below bz19 _)
  replace ho := ho.below bz19
  replace hz5 := hz5.after bz19
  replace hz12 := hz12.after bz19
  have hz20 : At Wz17 Wz9.heap.size (.cells #[.int .i64 0, .int .i64 0, .int .i64 0, .int .i64 0, .slice none 0 0] 28 (0, 0)) := nnz18.at_
  refine hK' _ _ ?_
  clear hK' K' nnz18 bz19
  go_frame
  refine wpList_nil ?_
  go_upto_region 1 with (fail)
  refine wp_region_lit ?_
  refine ls_ex (some 5) (.pointer (some ⟨Wz2.heap.size, 0, none⟩)) rfl rfl (exec_fieldAddr 58 _ 0 rfl _ (by kernel_rfl)) ?_
  go_frame
  refine ls_ex (some 6) (.agg (u8s (segm (q) 0 9))) rfl rfl (exec_load_seg 55 _ rfl Wz2.heap.size (0) rfl _ (q) _ 9 hz12 Try.underlying55 rfl (by kernel_rfl) (by rw [hq.len]; omega) (segm (q) 0 9) rfl) ?_
  go_frame
  refine ls_op rfl (fun K' hK' => ?_)
  have lz24 := hG.size
  have lz25 := hz5.lt
  have lz26 := hz12.lt
  have lz27 := hz20.lt
  refine wp_call1 (some 7) rfl 50 _ _ rfl (fun args w => by kernel_rfl) _ rfl _ (l01Zero_c (segm (q) 0 9) (segm_bytes hq (by omega)) _) (fun e Wz22 h => ?_)
  obtain ⟨rfl, bz23⟩ := h
  replace hG := grown_trans hG (grown_below bz23 _)
  replace ho := ho.below bz23
  replace hz5 := hz5.after bz23
  replace hz12 := hz12.after bz23
  replace hz20 := hz20.after bz23
  rw [Z0.out]
  clear bz23
  refine ⟨_, rfl, ?_⟩
  refine hK' _ _ ?_
  clear hK' K'
  go_frame
  refine ls_ex (some 8) (.bool true) rfl rfl (exec_not _ _ rfl false rfl) ?_
  go_frame
  refine ls_ex (some 9) (.bool true) rfl rfl (exec_move _ rfl (.bool true) rfl) ?_
  go_frame
  refine ls_ex_g (some 10) (.pointer (some ⟨Wz2.heap.size, 9, none⟩)) rfl rfl (exec_fieldAddr 58 _ 1 rfl _ (by kernel_rfl)) ?_
  go_frame
  refine ls_ex_g (some 11) (.agg (u8s (segm (q) 9 9))) rfl rfl (exec_load_seg 55 _ rfl Wz2.heap.size (9) rfl _ (q) _ 9 hz12 Try.underlying55 rfl (by kernel_rfl) (by rw [hq.len]; omega) (segm (q) 9 9) rfl) ?_
  go_frame
  refine ls_op_g rfl (fun K' hK' => ?_)
  have lz30 := hG.size
  have lz31 := hz5.lt
  have lz32 := hz12.lt
  have lz33 := hz20.lt
  refine wp_call1 (some 12) rfl 50 _ _ rfl (fun args w => by kernel_rfl) _ rfl _ (l01Zero_c (segm (q) 9 9) (segm_bytes hq (by omega)) _) (fun e Wz28 h => ?_)
  obtain ⟨rfl, bz29⟩ := h
  replace hG := grown_trans hG (grown_below bz29 _)
  replace ho := ho.below bz29
  replace hz5 := hz5.after bz29
  replace hz12 := hz12.after bz29
  replace hz20 := hz20.after bz29
  rw [Z1.out]
  clear bz29
  refine ⟨_, rfl, ?_⟩
  refine hK' _ _ ?_
  clear hK' K'
  go_frame
  refine ls_ex_g (some 13) (.bool true) rfl rfl (exec_not _ _ rfl false rfl) ?_
  go_frame
  refine ls_ex (some 14) (.bool true) rfl rfl (exec_pick _ _ _ rfl true rfl (.bool true) rfl) ?_
  go_frame
  refine ls_ex (some 15) (.bool true) rfl rfl (exec_move _ rfl (.bool true) rfl) ?_
  go_frame
  refine ls_ex_g (some 16) (.pointer (some ⟨Wz2.heap.size, 18, none⟩)) rfl rfl (exec_fieldAddr 58 _ 2 rfl _ (by kernel_rfl)) ?_
  go_frame
  refine ls_ex_g (some 17) (.agg (u8s (segm (q) 18 9))) rfl rfl (exec_load_seg 55 _ rfl Wz2.heap.size (18) rfl _ (q) _ 9 hz12 Try.underlying55 rfl (by kernel_rfl) (by rw [hq.len]; omega) (segm (q) 18 9) rfl) ?_
  go_frame
  refine ls_op_g rfl (fun K' hK' => ?_)
  have lz36 := hG.size
  have lz37 := hz5.lt
  have lz38 := hz12.lt
  have lz39 := hz20.lt
  refine wp_call1 (some 18) rfl 50 _ _ rfl (fun args w => by kernel_rfl) _ rfl _ (l01Zero_c (segm (q) 18 9) (segm_bytes hq (by omega)) _) (fun e Wz34 h => ?_)
  obtain ⟨rfl, bz35⟩ := h
  replace hG := grown_trans hG (grown_below bz35 _)
  replace ho := ho.below bz35
  replace hz5 := hz5.after bz35
  replace hz12 := hz12.after bz35
  replace hz20 := hz20.after bz35
  rw [Z2.out]
  clear bz35
  refine ⟨_, rfl, ?_⟩
  refine hK' _ _ ?_
  clear hK' K'
  go_frame
  refine ls_ex_g (some 19) (.bool true) rfl rfl (exec_not _ _ rfl false rfl) ?_
  go_frame
  refine ls_ex (some 20) (.bool true) rfl rfl (exec_pick _ _ _ rfl true rfl (.bool true) rfl) ?_
  go_frame
  refine wpList_nil ?_
  go_upto_region 2 with (fail)
  refine wp_region_lit ?_
  refine ls_ex (some 21) (.pointer (some ⟨w.heap.size, 4, none⟩)) rfl rfl (exec_fieldAddr 28 _ 4 rfl _ (by kernel_rfl)) ?_
  go_frame
  refine ls_ex (some 22) (.slice A l c) rfl rfl (exec_load_one 26 _ rfl w.heap.size 4 rfl (.slice A l c) _ Try.underlying26 rfl (hz5.at_ 4)) ?_
  go_frame
  refine ls_ex (some 23) (.agg (u8s (q))) rfl rfl (exec_load_all 58 _ rfl Wz2.heap.size rfl _ _ _ hz12 Try.underlying58 rfl 27 (by kernel_rfl) ((u8s_size _).trans hq.len)) ?_
  go_frame
  refine ls_op rfl (fun K' hK' => ?_)
  have lz40 := hG.size
  have lz41 := hz5.lt
  have lz42 := hz12.lt
  have lz43 := hz20.lt
  refine wp_slice1 (some 24) rfl 26 58 _ rfl (q) rfl Try.underlying26 infoProd hq.len (fun Wz44 nnz45 => ?_)
  have bz46 := nnz45.below (Below.refl _ _) (Nat.le_refl _)
  replace hG := grown_trans hG (grown_below bz46 _)
  replace ho := ho.below bz46
  replace hz5 := hz5.after bz46
  replace hz12 := hz12.after bz46
  replace hz20 := hz20.after bz46
  have hqz47 : At Wz44 Wz34.heap.size (.cells (u8s (q)) 58 (0, 0)) := nnz45.at_
  refine hK' _ _ ?_
  clear hK' K' nnz45 bz46
  go_frame
  refine ls_op rfl (fun K' hK' => ?_)
  have lz51 := hG.size
  have lz52 := hz5.lt
  have lz53 := hz12.lt
  have lz54 := hz20.lt
  have lz55 := hqz47.lt
  refine wp_appP (some 25) rfl _ _ rfl (.slice A l c) (qs) (q) rfl ho Wz34.heap.size rfl hqz47 hq.len hle (by omega) (fun v9 Wz48 noz50 grz49 => ?_)
  rw [HY.out] at noz50
  obtain ⟨A9, c9, rfl⟩ := Own.rdN2 noz50 (n := N9) HN.out
  replace hG := grown_trans hG grz49
  replace hz5 := hz5.grown grz49 (ho.off hz5 (by decide))
  replace hz12 := hz12.grown grz49 naz13
  replace hz20 := hz20.grown grz49 (ho.off hz20 (by decide))
  replace ho := noz50
  refine hK' _ _ ?_
  clear hK' K' grz49 hqz47
  go_frame
  refine ls_ex (some 26) (.pointer (some ⟨w.heap.size, 4, none⟩)) rfl rfl (exec_fieldAddr 28 _ 4 rfl _ (by kernel_rfl)) ?_
  go_frame
  refine ls_op rfl (fun K' hK' => ?_)
  refine wp_store_one 26 _ _ rfl rfl w.heap.size 4 rfl (.slice A9 N9 c9) rfl rfl rfl _ _ hz5 (by kernel_rfl) (by simp) (fun Wz56 pz57 => ?_)
  replace hG := grown_put hG pz57 (by omega)
  replace ho := ho.put pz57 (ho.off hz5 (by decide))
  replace hz12 := pz57.other hz12 (by omega)
  replace hz20 := pz57.other hz20 (by omega)
  replace hz5 : At Wz56 w.heap.size (.cells #[.int .i64 p, .int .i64 n, .int .i64 m, .int .i64 k, .slice A9 N9 c9] 28 (0, 0)) := pz57.at_
  refine hK' _ _ ?_
  clear hK' K' pz57
  refine wpList_nil ?_
  go_upto_region 3 with (fail)
  refine wp_region_lit ?_
  refine ls_ex (some 27) (.agg #[.int .i64 p, .int .i64 n, .int .i64 m, .int .i64 k, .slice A9 N9 c9]) rfl rfl (exec_load_all 28 _ rfl w.heap.size rfl _ _ _ hz5 Try.underlying28 rfl 5 (by kernel_rfl) rfl) ?_
  go_frame
  refine ls_op rfl (fun K' hK' => ?_)
  refine wp_store_all 28 _ _ rfl rfl Wz9.heap.size rfl #[.int .i64 p, .int .i64 n, .int .i64 m, .int .i64 k, .slice A9 N9 c9] rfl _ _ hz20 5 (by kernel_rfl) rfl rfl (one5 _ _ _ _ _ _ _) (fun Wz58 pz59 => ?_)
  replace hG := grown_put hG pz59 (by omega)
  replace ho := ho.put pz59 (ho.off hz20 (by decide))
  replace hz5 := pz59.other hz5 (by omega)
  replace hz12 := pz59.other hz12 (by omega)
  replace hz20 : At Wz58 Wz9.heap.size (.cells #[.int .i64 p, .int .i64 n, .int .i64 m, .int .i64 k, .slice A9 N9 c9] 28 (0, 0)) := pz59.at_
  refine hK' _ _ ?_
  clear hK' K' pz59
  refine wpList_nil ?_
  go_wp2_with fail
  refine bodyPost_ret (results_at rfl _ _ Wz9.heap.size _ _ _ rfl hz20 Try.underlying28 rfl 5 (by kernel_rfl) rfl) rfl ?_
  exact ⟨_, rfl, ho, hG⟩
theorem l08Put_c (p n m k : Int) (A : Option Addr) (l c : Nat) (qs : List (List Nat)) (q : List Nat) (hq : Bytes 27 q) (lo : Nat) (w : World) (ho : Own w lo (.slice A l c) qs) (hle : qs.length ≤ 1000000) (hlo : lo ≤ w.heap.size) : Calls Try.prog 26 #[.agg #[.int .i64 p, .int .i64 n, .int .i64 m, .int .i64 k, .slice A l c], .agg (u8s q)] w (fun e w' => ∃ v', e = .returned (.agg #[.int .i64 p, .int .i64 n, .int .i64 m, .int .i64 k, v']) ∧ Own w' lo v' (putL qs q) ∧ w.grownBy w' (Value.slice A l c).ownBlock) := by
  cases z0 : zeroB (segm q 0 9) with
  | true => exact put_a p n m k A l c qs q hq lo w ho hle hlo z0
  | false =>
    cases z1 : zeroB (segm q 9 9) with
    | true => exact put_b p n m k A l c qs q hq lo w ho hle hlo z0 z1
    | false =>
      cases z2 : zeroB (segm q 18 9) with
      | true => exact put_c p n m k A l c qs q hq lo w ho hle hlo z0 z1 z2
      | false => exact put_d p n m k A l c qs q hq lo w ho hle hlo z0 z1 z2
end Go.Proofs.Ytnlidegmllcdhaa
