/-
  StretchBorder of both sides. (Made by mktwa.py.)
-/
import Derived.Test.YtlpdglmjejfmhaaTw9
import Derived.Test.YtlpdglmjejfmhaaCs1
import Derived.Test.YtlpdglmjejfmhaaNrm4
namespace Go.Proofs.Ytlpdglmjejfmhaa
open Go.RowKit
set_option maxRecDepth 100000
theorem cut_world {n : Nat} {w W : World} (_ : Below n w W) : ∃ x : World, x = W := ⟨W, rfl⟩
theorem exec_mkfnB {P : Program} {o : Oper} {a : Act} {w : World} (f : FuncId) (x y : Operand) (ho : o.op = .makeFunc (.func f) #[] #[x, y]) (u v : Value) (hx : a.eval x = u) (hy : a.eval y = v) : (execOp a.eval o).run P w = .ok (.value (.func (.func f) #[] #[u, v])) w := by
  subst hx hy
  unfold execOp
  simp only [ho]
  simp [go_sem]

theorem exec_conv8 {o : Oper} {a : Act} {w : World} (x : Operand) (ho : o.op = .convert 2 5 x) (m : Int) (y : Nat) (hx : a.eval x = .int .i64 m) (hy : y < 256) (hm : m = (y : Int)) : (execOp a.eval o).run Try.prog w = .ok (.value (.int .u8 (y : Int))) w := by
  subst hm
  have hw : IntKind.u8.wrap (y : Int) = (y : Int) := by unfold IntKind.wrap; simp [IntKind.signed, IntKind.bits]; omega
  unfold execOp
  simp only [ho, hx]
  simp [go_sem, Try.underlying5, Try.underlying2, hw]
/-- The powers of v modulo p, as they are made one from the other. -/
def spw (p v : Int) : Nat → Int
  | 0 => 1
  | i + 1 => (spw p v i * v) % p
theorem spw_b {p v : Int} (hp : 2 ≤ p ∧ p ≤ 5) (i : Nat) : 0 ≤ spw p v i ∧ spw p v i ≤ 5 := by
  cases i with
  | zero => simp [spw]
  | succ i =>
    simp only [spw]
    have h1 := Int.emod_nonneg (spw p v i * v) (show p ≠ 0 by omega)
    have h2 := Int.emod_lt_of_pos (spw p v i * v) (show 0 < p by omega)
    omega
theorem em_mul (a v p : Int) : (a % p * v) % p = (a * v) % p := by rw [Int.mul_emod (a % p), Int.emod_emod, ← Int.mul_emod]
theorem spw_pow {p v : Int} (hp : 2 ≤ p) (i : Nat) : spw p v i = powI v i % p := by
  induction i with
  | zero => simp only [spw, powI]; exact (Int.emod_eq_of_lt (by omega) (by omega)).symm
  | succ i ih =>
    simp only [spw, powI]
    rw [ih, em_mul]
theorem pow_b {v : Int} (h : 1 ≤ v) (h2 : v ≤ 4) {i : Nat} (hi : i ≤ 3) : 1 ≤ powI v i ∧ powI v i ≤ 64 := by
  have hv : v = 1 ∨ v = 2 ∨ v = 3 ∨ v = 4 := by omega
  have hi : i = 0 ∨ i = 1 ∨ i = 2 ∨ i = 3 := by omega
  rcases hv with rfl | rfl | rfl | rfl <;> rcases hi with rfl | rfl | rfl | rfl <;> simp [powI]
def strS (p v : Int) (s : List Nat) : List Nat := (List.range 36).map fun j => ad1 p (powI v (j % 4)) 0 (s[j]?.getD 0)
theorem strS_len (p v : Int) (s : List Nat) : (strS p v s).length = 36 := by simp [strS]
theorem strS_bytes {p v : Int} (s : List Nat) (hp : 2 ≤ p ∧ p ≤ 5) : Bytes 36 (strS p v s) := ⟨strS_len p v s, fun n hn => by
  obtain ⟨j, _, rfl⟩ := List.mem_map.1 hn
  have := ad1_lt (p := p) (powI v (j % 4)) 0 (s[j]?.getD 0) (by omega) hp.2
  omega⟩
theorem strS_parts (p v : Int) (s : List Nat) {i c : Nat} (hi : i < 4) (hc : c < 9) : (partsL (strS p v s))[i * 9 + c]?.getD 0 = ad1 p (powI v i) 0 (s[c * 4 + i]?.getD 0) := by
  have h1 : i * 9 + c < 36 := by omega
  have h2 : c * 4 + i < 36 := by omega
  simp only [partsL, List.getElem?_map, List.getElem?_range h1, Option.map_some, Option.getD_some]
  rw [show (i * 9 + c) % 9 * 4 + (i * 9 + c) / 9 = c * 4 + i by omega]
  simp only [strS, List.getElem?_map, List.getElem?_range h2, Option.map_some, Option.getD_some]
  rw [show (c * 4 + i) % 4 = i by omega]
/-- What the model makes of one number is what the program makes of it. -/
theorem str_num {p v : Int} (hp : 2 ≤ p ∧ p ≤ 5) (i x : Nat) : ((x : Int) * spw p v i).tmod p = ((ad1 p (powI v i) 0 x : Nat) : Int) := by
  have h0 := (spw_b (v := v) hp i).1
  rw [ad1_cast (powI v i) 0 x (by omega), Int.tmod_eq_emod_of_nonneg (Int.mul_nonneg (by omega) h0), spw_pow hp.1, Int.mul_comm (x : Int), em_mul]
  simp
theorem str_next {p v : Int} (hp : 2 ≤ p ∧ p ≤ 5) (hv : 1 ≤ v) (i : Nat) : (spw p v i * v).tmod p = spw p v (i + 1) := by
  have h0 := (spw_b (v := v) hp i).1
  rw [Int.tmod_eq_emod_of_nonneg (Int.mul_nonneg h0 (by omega))]
  rfl
/-- The parts of a series, the first of them multiplied. -/
def kmix (p v : Int) (s : List Nat) (i : Nat) : List Nat := (List.range 36).map fun j => if j / 9 < i then (partsL (strS p v s))[j]?.getD 0 else (partsL s)[j]?.getD 0
theorem kmix_len (p v : Int) (s : List Nat) (i : Nat) : (kmix p v s i).length = 36 := by simp [kmix]
theorem kmix_get (p v : Int) (s : List Nat) (i : Nat) {j : Nat} (hj : j < 36) : (kmix p v s i)[j]?.getD 0 = if j / 9 < i then (partsL (strS p v s))[j]?.getD 0 else (partsL s)[j]?.getD 0 := by
  simp only [kmix, List.getElem?_map, List.getElem?_range hj, Option.map_some, Option.getD_some]
theorem kmix_zero (p v : Int) (s : List Nat) : kmix p v s 0 = partsL s := by
  refine eq_of_getD (kmix_len _ _ _ _) (partsL_len s) fun j hj => ?_
  rw [kmix_get _ _ _ _ hj, if_neg (by omega)]
theorem kmix_four (p v : Int) (s : List Nat) : kmix p v s 4 = partsL (strS p v s) := by
  refine eq_of_getD (kmix_len _ _ _ _) (partsL_len _) fun j hj => ?_
  rw [kmix_get _ _ _ _ hj, if_pos (by omega)]
theorem kmix_step (p v : Int) (s : List Nat) {i : Nat} (hi : i < 4) : over (kmix p v s i) (i * 9) (scF p (powI v i) (partL s i)) = kmix p v s (i + 1) := by
  have hl : (scF p (powI v i) (partL s i)).length = 9 := adF_len _ _ _ _
  refine eq_of_getD (n := 36) (by rw [over_length (by rw [hl, kmix_len]; omega), kmix_len]) (kmix_len _ _ _ _) fun j hj => ?_
  rw [over_get (by rw [hl, kmix_len]; omega), hl, kmix_get _ _ _ _ hj, kmix_get _ _ _ _ hj]
  by_cases h : i * 9 ≤ j ∧ j < i * 9 + 9
  · rw [if_pos h, if_pos (by omega)]
    unfold scF
    rw [adF_get _ _ _ _ (by omega), partL_get _ _ _ (by omega), show j = i * 9 + (j - i * 9) by omega, strS_parts p v s hi (by omega), show i * 9 + (j - i * 9) - i * 9 = j - i * 9 by omega, List.getElem?_replicate, if_pos (by omega)]
    rfl
  · rw [if_neg h]
    by_cases h2 : j / 9 < i
    · rw [if_pos h2, if_pos (by omega)]
    · rw [if_neg h2, if_neg (by omega)]
def strT (p v : Int) (t : List Nat) : List Nat := mapT (fun _ s => strS p v s) t
theorem strT_bytes {p v : Int} {t : List Nat} (hp : 2 ≤ p ∧ p ≤ 5) (ht : Bytes 108 t) : Bytes 108 (strT p v t) := mapT_bytes ht (fun _ s _ _ => strS_bytes s hp)
def sbCode (p n m k : Int) (ts : List (List Nat)) (v : Int) : Int := if borderB p n m k ts = true then (if (decide (1 ≤ v) && decide (v ≤ p - 1)) = true then 0 else 2) else 1
theorem primeB_b {p : Int} (h : primeB p = true) : 2 ≤ p ∧ p ≤ 5 := by
  simp only [primeB, Bool.or_eq_true, beq_iff_eq] at h
  omega
attribute [local irreducible] wpList
set_option maxHeartbeats 12800000 in
theorem l08Stretch_c (p x : Int) (f : List Nat) (hf : Bytes 36 f) (hp5 : 2 ≤ p ∧ p ≤ 5) (hv : 1 ≤ x ∧ x ≤ p - 1) (w : World) :
    Calls Try.prog 56 #[.int .i64 p, .agg (u8s f), .int .i64 x] w (fun e w' => e = .returned (.agg (u8s (strS p x f))) ∧ Below w.heap.size w w') := by
  have hB := Below.refl w.heap.size w
  have HF := Lib.hid hf.len
  have HFb := Lib.hid hf
  go_enter Try.func56, Try.ntmps56
  go_upto_region 0 with (fail)
  refine wp_region_lit ?_
  refine ls_op rfl (fun K' hK' => ?_)
  have lz1 := hB.size
  refine wp_new (some 4) rfl (exec_box 61 _ rfl (u8s (f)) rfl) (fun Wz2 nnz3 => ?_)
  have bz4 := nnz3.below (Below.refl _ _) (Nat.le_refl _)
  replace hB := below_after hB bz4
  have hz5 : At Wz2 w.heap.size (.cells (u8s (f)) 61 (0, 0)) := nnz3.at_
  refine hK' _ _ ?_
  clear hK' K' nnz3 bz4
  go_frame
  refine ls_op rfl (fun K' hK' => ?_)
  have lz6 := hB.size
  have lz7 := hz5.lt
  refine wp_new (some 6) rfl (al_impl_Series rfl) (fun Wz8 nnz9 => ?_)
  have bz10 := nnz9.below (Below.refl _ _) (Nat.le_refl _)
  replace hB := below_after hB bz10
  replace hz5 := hz5.after bz10
  have hz11 : At Wz8 Wz2.heap.size (.cells (u8s (List.replicate 36 0)) 61 (0, 0)) := nnz9.at_
  refine hK' _ _ ?_
  clear hK' K' nnz9 bz10
  go_frame
  refine wpList_nil ?_
  go_upto_region 1 with (fail)
  refine wp_region_lit ?_
  refine ls_ex (some 11) (.agg (u8s (List.replicate 36 0))) rfl rfl (exec_build_nil 61 rfl _ (by kernel_rfl)) ?_
  go_frame
  refine ls_op rfl (fun K' hK' => ?_)
  have lz12 := hB.size
  have lz13 := hz5.lt
  have lz14 := hz11.lt
  refine wp_new (some 7) rfl (al_impl_Series rfl) (fun Wz15 nnz16 => ?_)
  have bz17 := nnz16.below (Below.refl _ _) (Nat.le_refl _)
  replace hB := below_after hB bz17
  replace hz5 := hz5.after bz17
  replace hz11 := hz11.after bz17
  have hz18 : At Wz15 Wz8.heap.size (.cells (u8s (List.replicate 36 0)) 61 (0, 0)) := nnz16.at_
  refine hK' _ _ ?_
  clear hK' K' nnz16 bz17
  go_frame
  refine ls_op rfl (fun K' hK' => ?_)
  refine wp_store_bytes 61 _ _ rfl rfl Wz8.heap.size rfl (List.replicate 36 0) rfl _ _ hz18 36 (by kernel_rfl) (by simp) (by simp) (fun Wz19 pz20 => ?_)
  replace hB := pz20.below hB (by omega)
  replace hz5 := pz20.other hz5 (by omega)
  replace hz11 := pz20.other hz11 (by omega)
  replace hz18 : At Wz19 Wz8.heap.size (.cells (u8s (List.replicate 36 0)) 61 (0, 0)) := pz20.at_
  refine hK' _ _ ?_
  clear hK' K' pz20
  refine ls_ex (some 8) (.int .i64 1) rfl rfl (exec_assign _ rfl (.int .i64 1) rfl) ?_
  go_frame
  refine wpList_nil ?_
  go_upto_region 2 with (fail)
  refine wp_region_lit ?_
  refine ls_ex (some 9) (.int .i64 0) rfl rfl (exec_assign _ rfl (.int .i64 0) rfl) ?_
  go_frame
  refine wpList_nil ?_
  go_wp2_with fail
  go_loopw [8, 9] (fun s8 s9 wr => ∃ i : Nat, i ≤ 4 ∧ s9 = .int .i64 i ∧ s8 = .int .i64 (spw p x i) ∧ Below w.heap.size w wr ∧ At wr w.heap.size (.cells (u8s (f)) 61 (0, 0)) ∧ At wr Wz8.heap.size (.cells (u8s (smix (partsL (strS p x f)) i 0)) 61 (0, 0)) ∧ At wr Wz2.heap.size (.cells (u8s (List.replicate 36 0)) 61 (0, 0))) (fun _ s9 _ => 4 - (intOf s9).toNat)
  case atStart => exact ⟨0, by omega, rfl, rfl, hB, hz5, by rw [smix_start]; exact hz18, hz11⟩
  case round =>
    clear hB hz5 hz11 hz18
    obtain ⟨i, hi, rfl, rfl, hB, h0, h1, h2⟩ := hrel
    by_cases hi4 : i < 4
    · go_upto_region 3 with (fail)
      refine wp_region_lit ?_
      refine ls_ex (some 12) (.int .i64 i) rfl rfl (exec_move _ rfl (.int .i64 i) rfl) ?_
      go_frame
      refine ls_ex (some 13) (.bool true) rfl rfl (exec_lss _ _ _ _ rfl i 4 rfl rfl true (decide_eq_true (by omega))) ?_
      go_frame
      refine wpList_nil ?_
      go_upto_region 5 with (fail)
      refine wp_region_lit ?_
      refine ls_ex (some 10) (.int .i64 0) rfl rfl (exec_assign _ rfl (.int .i64 0) rfl) ?_
      go_frame
      refine wpList_nil ?_
      go_wp2_with fail
      obtain ⟨we, rfl⟩ : ∃ x : World, x = wr := ⟨_, rfl⟩
      go_loopw [10] (fun s10 wr => ∃ c : Nat, c ≤ 9 ∧ s10 = .int .i64 c ∧ Below w.heap.size w wr ∧ At wr w.heap.size (.cells (u8s (f)) 61 (0, 0)) ∧ At wr Wz8.heap.size (.cells (u8s (smix (partsL (strS p x f)) i c)) 61 (0, 0)) ∧ At wr Wz2.heap.size (.cells (u8s (List.replicate 36 0)) 61 (0, 0))) (fun s10 _ => 9 - (intOf s10).toNat)
      case atStart => exact ⟨0, by omega, rfl, hB, h0, h1, h2⟩
      case round =>
        clear hB h0 h1 h2
        obtain ⟨c, hc, rfl, hB, h0, h1, h2⟩ := hrel
        by_cases hc9 : c < 9
        · obtain ⟨y, hy⟩ : ∃ y, f[c * 4 + i]?.getD 0 = y := ⟨_, rfl⟩
          have Hx := Lib.hid hy
          have hy256 : y < 256 := by rw [← hy]; exact HFb.out.lt _
          obtain ⟨z, hz⟩ : ∃ z, ad1 p (powI x i) 0 y = z := ⟨_, rfl⟩
          have hz5 : z < 5 := by rw [← hz]; exact ad1_lt _ _ _ (by omega) hp5.2
          have HZ : Hid (((y : Int) * spw p x i).tmod p = (z : Int)) := Lib.hid (by rw [← hz]; exact str_num hp5 i y)
          have HP : Hid ((smix (partsL (strS p x f)) i c).set (c * 4 + i) z = smix (partsL (strS p x f)) i (c + 1)) := Lib.hid (smix_step hi4 (by rw [strS_parts p x f hi4 hc9, hy, hz]))
          have hm0 : 0 ≤ (y : Int) * spw p x i := Int.mul_nonneg (by omega) (spw_b hp5 i).1
          have hm1 : (y : Int) * spw p x i ≤ 256 * 5 := Int.mul_le_mul (by omega) (spw_b hp5 i).2 (spw_b hp5 i).1 (by omega)
          clear hy hz
          go_upto_region 6 with (fail)
          refine wp_region_lit ?_
          refine ls_ex (some 16) (.int .i64 c) rfl rfl (exec_move _ rfl (.int .i64 c) rfl) ?_
          go_frame
          refine ls_ex (some 17) (.bool true) rfl rfl (exec_lss _ _ _ _ rfl c 9 rfl rfl true (decide_eq_true (by omega))) ?_
          go_frame
          refine wpList_nil ?_
          go_upto_region 8 with (fail)
          refine wp_region_y (zs := []) (S := fun w' => Below w.heap.size w w' ∧ At w' w.heap.size (.cells (u8s (f)) 61 (0, 0))) (S2 := fun w' => True) (by kernel_rfl) ?_
          change wpAnyY _ _ _ _ _ _ _ _ _ _ (World.drew _)
          generalize hwdz21 : World.drew _ = wdz21
          replace hB : Below w.heap.size w wdz21 := by rw [← hwdz21]; exact hB.drew
          replace h0 : At wdz21 w.heap.size (.cells (u8s (f)) 61 (0, 0)) := by rw [← hwdz21]; exact h0
          replace h1 : At wdz21 Wz8.heap.size (.cells (u8s (smix (partsL (strS p x f)) i c)) 61 (0, 0)) := by rw [← hwdz21]; exact h1
          replace h2 : At wdz21 Wz2.heap.size (.cells (u8s (List.replicate 36 0)) 61 (0, 0)) := by rw [← hwdz21]; exact h2
          clear hwdz21
          refine y_yield 0 (some 20) (.int .i64 c) rfl (by kernel_rfl) (by kernel_rfl) (by kernel_rfl) (fun _ _ _ h => h) rfl rfl ⟨hB, h0⟩ (fun w' h' => exec_move _ rfl (.int .i64 c) rfl) ?_
          go_frame
          refine y_yield 1 (some 21) (.int .i64 i) rfl (by kernel_rfl) (by kernel_rfl) (by kernel_rfl) (fun _ _ _ h => h) rfl rfl ⟨hB, h0⟩ (fun w' h' => exec_move _ rfl (.int .i64 i) rfl) ?_
          go_frame
          refine y_yield 2 (some 22) (.int .i64 c) rfl (by kernel_rfl) (by kernel_rfl) (by kernel_rfl) (fun _ _ _ h => h) rfl rfl ⟨hB, h0⟩ (fun w' h' => exec_move _ rfl (.int .i64 c) rfl) ?_
          go_frame
          refine y_yield 3 (some 23) (.int .i64 i) rfl (by kernel_rfl) (by kernel_rfl) (by kernel_rfl) (fun _ _ _ h => h) rfl rfl ⟨hB, h0⟩ (fun w' h' => exec_move _ rfl (.int .i64 i) rfl) ?_
          go_frame
          refine y_yield 4 (some 24) (.pointer (some ⟨w.heap.size, c * 4, none⟩)) rfl (by kernel_rfl) (by kernel_rfl) (by kernel_rfl) (fun _ _ _ h => h) rfl rfl ⟨hB, h0⟩ (fun w' h' => exec_index_arr0 61 59 _ _ rfl w.heap.size 9 c 4 rfl rfl Try.underlying61 (by kernel_rfl) hc9) ?_
          go_frame
          refine y_yield 5 (some 25) (.pointer (some ⟨w.heap.size, c * 4 + i, none⟩)) rfl (by kernel_rfl) (by kernel_rfl) (by kernel_rfl) (fun _ _ _ h => h) rfl rfl ⟨hB, h0⟩ (fun w' h' => exec_index_arr1 59 5 _ _ rfl w.heap.size (c * 4) 4 i rfl rfl Try.underlying59 (by kernel_rfl) hi4) ?_
          go_frame
          refine y_yield 6 (some 26) (.int .u8 (y : Nat)) rfl (by kernel_rfl) (by kernel_rfl) (by kernel_rfl) (fun _ _ _ h => h) rfl rfl ⟨hB, h0⟩ (fun w' h' => exec_load_one 5 _ rfl w.heap.size (c * 4 + i) rfl (.int .u8 (y : Nat)) _ Try.underlying5 rfl (cellX h'.2 (by rw [HF.out]; omega) Hx.out)) ?_
          go_frame
          refine y_yield 7 (some 27) (.int .i64 (y : Int)) rfl (by kernel_rfl) (by kernel_rfl) (by kernel_rfl) (fun _ _ _ h => h) rfl rfl ⟨hB, h0⟩ (fun w' h' => exec_conv _ rfl y rfl hy256) ?_
          go_frame
          refine y_yield 8 (some 28) (.int .i64 (spw p x i)) rfl (by kernel_rfl) (by kernel_rfl) (by kernel_rfl) (fun _ _ _ h => h) rfl rfl ⟨hB, h0⟩ (fun w' h' => exec_move _ rfl (.int .i64 (spw p x i)) rfl) ?_
          go_frame
          refine y_yield 9 (some 29) (.int .i64 ((y : Int) * spw p x i)) rfl (by kernel_rfl) (by kernel_rfl) (by kernel_rfl) (fun _ _ _ h => h) rfl rfl ⟨hB, h0⟩ (fun w' h' => exec_mul _ _ _ _ rfl (y : Int) (spw p x i) ((y : Int) * spw p x i) rfl rfl (IntWalk.i64_in _ (by omega))) ?_
          go_frame
          refine y_yield 10 (some 30) (.int .i64 p) rfl (by kernel_rfl) (by kernel_rfl) (by kernel_rfl) (fun _ _ _ h => h) rfl rfl ⟨hB, h0⟩ (fun w' h' => exec_move _ rfl (.int .i64 p) rfl) ?_
          go_frame
          refine y_yield 11 (some 31) (.int .i64 (z : Int)) rfl (by kernel_rfl) (by kernel_rfl) (by kernel_rfl) (fun _ _ _ h => h) rfl rfl ⟨hB, h0⟩ (fun w' h' => exec_rem _ _ _ _ rfl ((y : Int) * spw p x i) p (z : Int) rfl rfl (by omega) HZ.out) ?_
          go_frame
          refine y_yield 12 (some 32) (.int .u8 (z : Nat)) rfl (by kernel_rfl) (by kernel_rfl) (by kernel_rfl) (fun _ _ _ h => h) rfl rfl ⟨hB, h0⟩ (fun w' h' => exec_conv8 _ rfl (z : Int) z rfl (by omega) rfl) ?_
          go_frame
          refine y_yield 13 (some 33) (.pointer (some ⟨Wz8.heap.size, c * 4, none⟩)) rfl (by kernel_rfl) (by kernel_rfl) (by kernel_rfl) (fun _ _ _ h => h) rfl rfl ⟨hB, h0⟩ (fun w' h' => exec_index_arr0 61 59 _ _ rfl Wz8.heap.size 9 c 4 rfl rfl Try.underlying61 (by kernel_rfl) hc9) ?_
          go_frame
          refine y_yield 14 (some 34) (.pointer (some ⟨Wz8.heap.size, c * 4 + i, none⟩)) rfl (by kernel_rfl) (by kernel_rfl) (by kernel_rfl) (fun _ _ _ h => h) rfl rfl ⟨hB, h0⟩ (fun w' h' => exec_index_arr1 59 5 _ _ rfl Wz8.heap.size (c * 4) 4 i rfl rfl Try.underlying59 (by kernel_rfl) hi4) ?_
          go_frame
          refine y_oper 15 (by kernel_rfl) rfl rfl (fun K' hK' => ?_)
          refine wp_store_b1 5 _ _ rfl rfl Wz8.heap.size (c * 4 + i) rfl (z) rfl _ _ h1 (by kernel_rfl) (by rw [smix_len]; omega) (fun Wz22 pz23 => ?_)
          replace hB := pz23.below hB (by omega)
          replace h0 := pz23.other h0 (by omega)
          replace h2 := pz23.other h2 (by omega)
          replace h1 : At Wz22 Wz8.heap.size (.cells (u8s (smix (partsL (strS p x f)) i (c + 1))) 61 (0, 0)) := by have h9 := pz23.at_; rwa [HP.out] at h9
          refine hK' _ _ ⟨hB, h0⟩ (fun _ => trivial) ?_
          clear hK' K' pz23
          refine y_done (by kernel_rfl) ?_ _
          go_upto_region 7 with (fail)
          refine wp_region_lit ?_
          refine ls_ex (some 18) (.int .i64 c) rfl rfl (exec_move _ rfl (.int .i64 c) rfl) ?_
          go_frame
          refine ls_ex (some 19) (.int .i64 (c + 1)) rfl rfl (exec_add _ _ _ _ rfl c 1 (c + 1) rfl rfl (IntWalk.i64_in _ (by omega))) ?_
          go_frame
          refine ls_ex (some 10) (.int .i64 (c + 1)) rfl rfl (exec_assign _ rfl (.int .i64 (c + 1)) rfl) ?_
          go_frame
          refine wpList_nil ?_
          go_wp2_with fail
          go_roundw
          case rel => exact ⟨c + 1, by omega, by go_num, hB, h0, h1, h2⟩
          case measure => simp [intOf]; omega
        · have HR : Hid (smix (partsL (strS p x f)) i c = smix (partsL (strS p x f)) (i + 1) 0) := Lib.hid (by rw [show c = 9 by omega]; exact smix_row _ i)
          rw [HR.out] at h1
          have HN := Lib.hid (str_next hp5 hv.1 i)
          have hm0 : 0 ≤ spw p x i * x := Int.mul_nonneg (spw_b hp5 i).1 (by omega)
          have hm1 : spw p x i * x ≤ 5 * 5 := Int.mul_le_mul (spw_b hp5 i).2 (by omega) (by omega) (by omega)
          go_upto_region 6 with (fail)
          refine wp_region_lit ?_
          refine ls_ex (some 16) (.int .i64 c) rfl rfl (exec_move _ rfl (.int .i64 c) rfl) ?_
          go_frame
          refine ls_ex (some 17) (.bool false) rfl rfl (exec_lss _ _ _ _ rfl c 9 rfl rfl false (decide_eq_false (by omega))) ?_
          go_frame
          refine wpList_nil ?_
          go_upto_region 9 with (fail)
          refine wp_region_lit ?_
          refine ls_ex (some 35) (.int .i64 (spw p x i)) rfl rfl (exec_move _ rfl (.int .i64 (spw p x i)) rfl) ?_
          go_frame
          refine ls_ex (some 36) (.int .i64 x) rfl rfl (exec_move _ rfl (.int .i64 x) rfl) ?_
          go_frame
          refine ls_ex (some 37) (.int .i64 (spw p x i * x)) rfl rfl (exec_mul _ _ _ _ rfl (spw p x i) x (spw p x i * x) rfl rfl (IntWalk.i64_in _ (by omega))) ?_
          go_frame
          refine ls_ex (some 38) (.int .i64 p) rfl rfl (exec_move _ rfl (.int .i64 p) rfl) ?_
          go_frame
          refine ls_ex (some 39) (.int .i64 (spw p x (i + 1))) rfl rfl (exec_rem _ _ _ _ rfl (spw p x i * x) p (spw p x (i + 1)) rfl rfl (by omega) HN.out) ?_
          go_frame
          refine ls_ex (some 8) (.int .i64 (spw p x (i + 1))) rfl rfl (exec_assign _ rfl (.int .i64 (spw p x (i + 1))) rfl) ?_
          go_frame
          refine wpList_nil ?_
          go_upto_region 4 with (fail)
          refine wp_region_lit ?_
          refine ls_ex (some 14) (.int .i64 i) rfl rfl (exec_move _ rfl (.int .i64 i) rfl) ?_
          go_frame
          refine ls_ex (some 15) (.int .i64 (i + 1)) rfl rfl (exec_add _ _ _ _ rfl i 1 (i + 1) rfl rfl (IntWalk.i64_in _ (by omega))) ?_
          go_frame
          refine ls_ex (some 9) (.int .i64 (i + 1)) rfl rfl (exec_assign _ rfl (.int .i64 (i + 1)) rfl) ?_
          go_frame
          refine wpList_nil ?_
          go_wp2_with fail
          go_roundw
          case rel => exact ⟨i + 1, by omega, by go_num, rfl, hB, h0, h1, h2⟩
          case measure => simp [intOf]; omega
    · have HR : Hid (smix (partsL (strS p x f)) i 0 = strS p x f) := Lib.hid (by rw [show i = 4 by omega, smix_end, serOf_parts _ (strS_len p x f)])
      rw [HR.out] at h1
      go_upto_region 3 with (fail)
      refine wp_region_lit ?_
      refine ls_ex (some 12) (.int .i64 i) rfl rfl (exec_move _ rfl (.int .i64 i) rfl) ?_
      go_frame
      refine ls_ex (some 13) (.bool false) rfl rfl (exec_lss _ _ _ _ rfl i 4 rfl rfl false (decide_eq_false (by omega))) ?_
      go_frame
      refine wpList_nil ?_
      go_upto_region 10 with (fail)
      refine wp_region_lit ?_
      refine ls_ex (some 40) (.agg (u8s (strS p x f))) rfl rfl (exec_load_all 61 _ rfl Wz8.heap.size rfl _ _ _ h1 Try.underlying61 rfl 36 (by kernel_rfl) ((u8s_size _).trans (strS_len p x f))) ?_
      go_frame
      refine ls_op rfl (fun K' hK' => ?_)
      refine wp_store_bytes 61 _ _ rfl rfl Wz2.heap.size rfl (strS p x f) rfl _ _ h2 36 (by kernel_rfl) (strS_len p x f) (by simp) (fun Wz24 pz25 => ?_)
      replace hB := pz25.below hB (by omega)
      replace h0 := pz25.other h0 (by omega)
      replace h1 := pz25.other h1 (by omega)
      replace h2 : At Wz24 Wz2.heap.size (.cells (u8s (strS p x f)) 61 (0, 0)) := pz25.at_
      refine hK' _ _ ?_
      clear hK' K' pz25
      refine wpList_nil ?_
      go_wp2_with fail
      refine bodyPost_ret (results_at rfl _ _ Wz2.heap.size _ _ _ rfl h2 Try.underlying61 rfl 36 (by kernel_rfl) ((u8s_size _).trans (strS_len p x f))) rfl ?_
      exact ⟨rfl, hB⟩
set_option maxHeartbeats 12800000 in
theorem stretch1_c0 (p n m k x b0 : Int) (A : Option Addr) (l c g g2 : Nat) (s : List Nat) (hs : Bytes 36 s) (hp5 : 2 ≤ p ∧ p ≤ 5) (hv : 1 ≤ x ∧ x ≤ p - 1) (w : World) (hg : At w g (.cells #[.int .i64 p, .int .i64 n, .int .i64 m, .int .i64 k, .slice A l c] 29 (0, 0))) (hx : At w g2 (.cells #[.int .i64 x] 2 (0, 0))) :
    Calls Try.prog 58 #[.int .i64 b0, .agg (u8s (partsL s)), .pointer (some ⟨g, 0, none⟩), .pointer (some ⟨g2, 0, none⟩)] w (fun e w' => e = .returned (.agg (u8s (partsL (strS p x s)))) ∧ Below w.heap.size w w') := by
  have hB := Below.refl w.heap.size w
  have hv4 : x ≤ 4 := by omega
  go_enter Try.func58, Try.ntmps58
  go_upto_region 0 with (fail)
  refine wp_region_lit ?_
  refine ls_op rfl (fun K' hK' => ?_)
  have lz1 := hB.size
  have lz2 := hg.lt
  have lz3 := hx.lt
  refine wp_new (some 5) rfl (exec_box 75 _ rfl (u8s (partsL s)) rfl) (fun Wz4 nnz5 => ?_)
  have bz6 := nnz5.below (Below.refl _ _) (Nat.le_refl _)
  replace hB := below_after hB bz6
  replace hg := hg.after bz6
  replace hx := hx.after bz6
  have hz7 : At Wz4 w.heap.size (.cells (u8s (partsL s)) 75 (0, 0)) := nnz5.at_
  refine hK' _ _ ?_
  clear hK' K' nnz5 bz6
  go_frame
  refine ls_op rfl (fun K' hK' => ?_)
  have lz8 := hB.size
  have lz9 := hg.lt
  have lz10 := hx.lt
  have lz11 := hz7.lt
  refine wp_new (some 6) rfl (al_impl_parts rfl) (fun Wz12 nnz13 => ?_)
  have bz14 := nnz13.below (Below.refl _ _) (Nat.le_refl _)
  replace hB := below_after hB bz14
  replace hg := hg.after bz14
  replace hx := hx.after bz14
  replace hz7 := hz7.after bz14
  have hz15 : At Wz12 Wz4.heap.size (.cells (u8s (List.replicate 36 0)) 75 (0, 0)) := nnz13.at_
  refine hK' _ _ ?_
  clear hK' K' nnz13 bz14
  go_frame
  refine wpList_nil ?_
  go_upto_region 1 with (fail)
  refine wp_region_lit ?_
  refine ls_ex (some 9) (.agg (u8s (partsL s))) rfl rfl (exec_load_all 75 _ rfl w.heap.size rfl _ _ _ hz7 Try.underlying75 rfl 36 (by kernel_rfl) ((u8s_size _).trans (partsL_len s))) ?_
  go_frame
  refine ls_ex (some 10) (.int .i64 0) rfl rfl (exec_move _ rfl (.int .i64 0) rfl) ?_
  go_frame
  refine wpList_nil ?_
  go_wp2_with fail
  go_loopw [10] (fun s10 wr => ∃ i : Nat, i ≤ 4 ∧ s10 = .int .i64 i ∧ Below w.heap.size w wr ∧ At wr g (.cells #[.int .i64 p, .int .i64 n, .int .i64 m, .int .i64 k, .slice A l c] 29 (0, 0)) ∧ At wr g2 (.cells #[.int .i64 x] 2 (0, 0)) ∧ At wr w.heap.size (.cells (u8s (kmix p x s i)) 75 (0, 0)) ∧ At wr Wz4.heap.size (.cells (u8s (List.replicate 36 0)) 75 (0, 0))) (fun s10 _ => 4 - (intOf s10).toNat)
  case atStart => exact ⟨0, by omega, rfl, hB, hg, hx, by rw [kmix_zero]; exact hz7, hz15⟩
  case round =>
    clear hB hg hx hz7 hz15
    obtain ⟨i, hi, rfl, hB, hg, hx, h1, h2⟩ := hrel
    by_cases hi4 : i < 4
    · have hpw := pow_b hv.1 hv4 (show i ≤ 3 by omega)
      have HP : Hid (over (kmix p x s i) (i * 9) (scF p (powI x i) (partL s i)) = kmix p x s (i + 1)) := Lib.hid (kmix_step p x s hi4)
      have hpj := Lib.hid (fun (j : Nat) (hj : j ≤ i) => (⟨(pow_b hv.1 hv4 (show j ≤ 3 by omega)).1, by have := (pow_b hv.1 hv4 (show j ≤ 3 by omega)).2; omega⟩ : 1 ≤ powI x j ∧ powI x j ≤ 1000000000000000000))
      go_upto_region 2 with (fail)
      refine wp_region_lit ?_
      refine ls_ex (some 11) (.bool true) rfl rfl (exec_lss _ _ _ _ rfl i 4 rfl rfl true (decide_eq_true (by omega))) ?_
      go_frame
      refine wpList_nil ?_
      go_upto_region 3 with (fail)
      refine wp_region_lit ?_
      refine ls_ex (some 12) (.int .i64 i) rfl rfl (exec_move _ rfl (.int .i64 i) rfl) ?_
      go_frame
      refine ls_ex (some 13) (.agg (u8s (partL s i))) rfl rfl (exec_index_part4 _ _ rfl i s rfl rfl hi4) ?_
      go_frame
      refine ls_op rfl (fun K' hK' => ?_)
      have lz16 := hB.size
      have lz17 := hg.lt
      have lz18 := hx.lt
      have lz19 := h1.lt
      have lz20 := h2.lt
      refine wp_new (some 8) rfl (al_impl_Form rfl) (fun Wz21 nnz22 => ?_)
      have bz23 := nnz22.below (Below.refl _ _) (Nat.le_refl _)
      replace hB := below_after hB bz23
      replace hg := hg.after bz23
      replace hx := hx.after bz23
      replace h1 := h1.after bz23
      replace h2 := h2.after bz23
      have hz24 : At Wz21 wr.heap.size (.cells (u8s (List.replicate 9 0)) 71 (0, 0)) := nnz22.at_
      refine hK' _ _ ?_
      clear hK' K' nnz22 bz23
      go_frame
      refine ls_ex (some 7) (.int .i64 i) rfl rfl (exec_assign _ rfl (.int .i64 i) rfl) ?_
      go_frame
      refine ls_op rfl (fun K' hK' => ?_)
      refine wp_store_bytes 71 _ _ rfl rfl wr.heap.size rfl (partL s i) rfl _ _ hz24 9 (by kernel_rfl) (partL_len s i) (by simp) (fun Wz25 pz26 => ?_)
      replace hB := pz26.below hB (by omega)
      replace hg := pz26.other hg (by omega)
      replace hx := pz26.other hx (by omega)
      replace h1 := pz26.other h1 (by omega)
      replace h2 := pz26.other h2 (by omega)
      replace hz24 : At Wz25 wr.heap.size (.cells (u8s (partL s i)) 71 (0, 0)) := pz26.at_
      refine hK' _ _ ?_
      clear hK' K' pz26
      refine wpList_nil ?_
      go_upto_region 4 with (fail)
      refine wp_region_y (zs := [9]) (S := fun w' => Below w.heap.size w w' ∧ At w' g (.cells #[.int .i64 p, .int .i64 n, .int .i64 m, .int .i64 k, .slice A l c] 29 (0, 0)) ∧ At w' g2 (.cells #[.int .i64 x] 2 (0, 0)) ∧ At w' wr.heap.size (.cells (u8s (partL s i)) 71 (0, 0))) (S2 := fun w' => True) (by kernel_rfl) ?_
      change wpAnyY _ _ _ _ _ _ _ _ _ _ (World.drew _)
      generalize hwdz27 : World.drew _ = wdz27
      replace hB : Below w.heap.size w wdz27 := by rw [← hwdz27]; exact hB.drew
      replace hg : At wdz27 g (.cells #[.int .i64 p, .int .i64 n, .int .i64 m, .int .i64 k, .slice A l c] 29 (0, 0)) := by rw [← hwdz27]; exact hg
      replace hx : At wdz27 g2 (.cells #[.int .i64 x] 2 (0, 0)) := by rw [← hwdz27]; exact hx
      replace h1 : At wdz27 w.heap.size (.cells (u8s (kmix p x s i)) 75 (0, 0)) := by rw [← hwdz27]; exact h1
      replace h2 : At wdz27 Wz4.heap.size (.cells (u8s (List.replicate 36 0)) 75 (0, 0)) := by rw [← hwdz27]; exact h2
      replace hz24 : At wdz27 wr.heap.size (.cells (u8s (partL s i)) 71 (0, 0)) := by rw [← hwdz27]; exact hz24
      clear hwdz27
      refine y_yield 0 (some 14) (.int .i64 i) rfl (by kernel_rfl) (by kernel_rfl) (by kernel_rfl) (fun _ _ _ h => h) rfl rfl ⟨hB, hg, hx, hz24⟩ (fun w' h' => exec_move _ rfl (.int .i64 i) rfl) ?_
      go_frame
      refine y_yield 1 (some 15) (.pointer (some ⟨g, 0, none⟩)) rfl (by kernel_rfl) (by kernel_rfl) (by kernel_rfl) (fun _ _ _ h => h) rfl rfl ⟨hB, hg, hx, hz24⟩ (fun w' h' => exec_fieldAddr 29 _ 0 rfl _ (by kernel_rfl)) ?_
      go_frame
      refine y_yield 2 (some 16) (.int .i64 p) rfl (by kernel_rfl) (by kernel_rfl) (by kernel_rfl) (fun _ _ _ h => h) rfl rfl ⟨hB, hg, hx, hz24⟩ (fun w' h' => exec_load_one 2 _ rfl g 0 rfl (.int .i64 p) _ Try.underlying2 rfl (h'.2.1.at_ 0)) ?_
      go_frame
      refine y_yield 3 (some 17) (.int .i64 x) rfl (by kernel_rfl) (by kernel_rfl) (by kernel_rfl) (fun _ _ _ h => h) rfl rfl ⟨hB, hg, hx, hz24⟩ (fun w' h' => exec_load_one 2 _ rfl g2 0 rfl (.int .i64 x) _ Try.underlying2 rfl (h'.2.2.1.at_ 0)) ?_
      go_frame
      refine y_yield 4 (some 18) (.int .i64 i) rfl (by kernel_rfl) (by kernel_rfl) (by kernel_rfl) (fun _ _ _ h => h) rfl rfl ⟨hB, hg, hx, hz24⟩ (fun w' h' => exec_move _ rfl (.int .i64 i) rfl) ?_
      go_frame
      refine y_yield 6 (some 20) (.agg (u8s (partL s i))) rfl (by kernel_rfl) (by kernel_rfl) (by kernel_rfl) (fun _ _ _ h => h) rfl rfl ⟨hB, hg, hx, hz24⟩ (fun w' h' => exec_load_all 71 _ rfl wr.heap.size rfl _ _ _ h'.2.2.2 Try.underlying71 rfl 9 (by kernel_rfl) ((u8s_size _).trans (partL_len s i))) ?_
      go_frame
      refine y_oper 5 (by kernel_rfl) rfl rfl (fun K' hK' => ?_)
      have lz30 := hB.size
      have lz31 := hg.lt
      have lz32 := hx.lt
      have lz33 := h1.lt
      have lz34 := h2.lt
      have lz35 := hz24.lt
      refine wp_call2 (some 19) rfl 60 _ _ _ rfl (fun args w => by kernel_rfl) _ _ rfl rfl _ (powerOf_c x i (by omega) hpj.out _) (fun e Wz28 h => ?_)
      obtain ⟨rfl, rfl⟩ := h
      refine ⟨_, rfl, ?_⟩
      refine hK' _ _ ⟨hB, hg, hx, hz24⟩ (fun _ => trivial) ?_
      clear hK' K'
      go_frame
      refine y_oper 7 (by kernel_rfl) rfl rfl (fun K' hK' => ?_)
      have lz38 := hB.size
      have lz39 := hg.lt
      have lz40 := hx.lt
      have lz41 := h1.lt
      have lz42 := h2.lt
      have lz43 := hz24.lt
      refine wp_call3 (some 21) rfl 59 _ _ _ _ rfl (fun args w => by kernel_rfl) _ _ _ rfl rfl rfl _ (multipliedBy_c p (powI x i) (partL s i) (partL_bytes hs i) _ (by omega) hp5.2 (by omega) (by omega)) (fun e Wz36 h => ?_)
      obtain ⟨rfl, bz37⟩ := h
      replace hB := below_after hB bz37
      replace hg := hg.after bz37
      replace hx := hx.after bz37
      replace h1 := h1.after bz37
      replace h2 := h2.after bz37
      replace hz24 := hz24.after bz37
      clear bz37
      refine ⟨_, rfl, ?_⟩
      refine hK' _ _ ⟨hB, hg, hx, hz24⟩ (fun _ => trivial) ?_
      clear hK' K'
      go_frame
      refine y_yield 8 (some 22) (.pointer (some ⟨w.heap.size, i * 9, none⟩)) rfl (by kernel_rfl) (by kernel_rfl) (by kernel_rfl) (fun _ _ _ h => h) rfl rfl ⟨hB, hg, hx, hz24⟩ (fun w' h' => exec_index_arr0 75 71 _ _ rfl w.heap.size 4 i 9 rfl rfl Try.underlying75 (by kernel_rfl) hi4) ?_
      go_frame
      refine y_oper 9 (by kernel_rfl) rfl rfl (fun K' hK' => ?_)
      refine wp_store_u8s 71 _ _ rfl rfl w.heap.size (i * 9) rfl (scF p (powI x i) (partL s i)) rfl _ _ h1 9 (by kernel_rfl) (adF_len _ _ _ _) (by rw [(kmix_len p x s i)]; omega) (fun Wz44 pz45 => ?_)
      replace hB := pz45.below hB (by omega)
      replace hg := pz45.other hg (by omega)
      replace hx := pz45.other hx (by omega)
      replace h2 := pz45.other h2 (by omega)
      replace hz24 := pz45.other hz24 (by omega)
      replace h1 : At Wz44 w.heap.size (.cells (u8s (kmix p x s (i + 1))) 75 (0, 0)) := by have h9 := pz45.at_; rwa [HP.out] at h9
      refine hK' _ _ ⟨hB, hg, hx, hz24⟩ (fun h => absurd (by decide) h) ?_
      clear hK' K' pz45
      refine y_done (by kernel_rfl) ?_ _
      go_upto_region 5 with (fail)
      refine wp_region_lit ?_
      refine ls_ex (some 23) (.int .i64 (i + 1)) rfl rfl (exec_add _ _ _ _ rfl i 1 (i + 1) rfl rfl (IntWalk.i64_in _ (by omega))) ?_
      go_frame
      refine ls_ex (some 10) (.int .i64 (i + 1)) rfl rfl (exec_move _ rfl (.int .i64 (i + 1)) rfl) ?_
      go_frame
      refine wpList_nil ?_
      go_wp2_with fail
      go_roundw
      case rel => exact ⟨i + 1, by omega, by go_num, hB, hg, hx, h1, h2⟩
      case measure => simp [intOf]; omega
    · have HR : Hid (kmix p x s i = partsL (strS p x s)) := Lib.hid (by rw [show i = 4 by omega]; exact kmix_four p x s)
      rw [HR.out] at h1
      go_upto_region 2 with (fail)
      refine wp_region_lit ?_
      refine ls_ex (some 11) (.bool false) rfl rfl (exec_lss _ _ _ _ rfl i 4 rfl rfl false (decide_eq_false (by omega))) ?_
      go_frame
      refine wpList_nil ?_
      go_upto_region 6 with (fail)
      refine wp_region_lit ?_
      refine ls_ex (some 24) (.agg (u8s (partsL (strS p x s)))) rfl rfl (exec_load_all 75 _ rfl w.heap.size rfl _ _ _ h1 Try.underlying75 rfl 36 (by kernel_rfl) ((u8s_size _).trans (partsL_len _))) ?_
      go_frame
      refine ls_op rfl (fun K' hK' => ?_)
      refine wp_store_bytes 75 _ _ rfl rfl Wz4.heap.size rfl (partsL (strS p x s)) rfl _ _ h2 36 (by kernel_rfl) (partsL_len _) (by simp) (fun Wz47 pz48 => ?_)
      replace hB := pz48.below hB (by omega)
      replace hg := pz48.other hg (by omega)
      replace hx := pz48.other hx (by omega)
      replace h1 := pz48.other h1 (by omega)
      replace h2 : At Wz47 Wz4.heap.size (.cells (u8s (partsL (strS p x s))) 75 (0, 0)) := pz48.at_
      refine hK' _ _ ?_
      clear hK' K' pz48
      refine wpList_nil ?_
      go_wp2_with fail
      refine bodyPost_ret (results_at rfl _ _ Wz4.heap.size _ _ _ rfl h2 Try.underlying75 rfl 36 (by kernel_rfl) ((u8s_size _).trans (partsL_len _))) rfl ?_
      exact ⟨rfl, hB⟩
theorem stretch1_c (p n m k x b0 : Int) (A : Option Addr) (l c g g2 : Nat) (s : List Nat) (hs : Bytes 36 s) (hp5 : 2 ≤ p ∧ p ≤ 5) (hv : 1 ≤ x ∧ x ≤ p - 1) (w : World) (hg : At w g (.cells #[.int .i64 p, .int .i64 n, .int .i64 m, .int .i64 k, .slice A l c] 29 (0, 0))) (hx : At w g2 (.cells #[.int .i64 x] 2 (0, 0))) : Calls Try.prog 58 (#[.int .i64 b0, .agg (u8s (partsL s))] ++ #[.pointer (some ⟨g, 0, none⟩), .pointer (some ⟨g2, 0, none⟩)]) w (fun e w' => e = .returned (.agg (u8s (partsL (strS p x s)))) ∧ Below w.heap.size w w') := by
  rw [show (#[.int .i64 b0, .agg (u8s (partsL s))] ++ #[.pointer (some ⟨g, 0, none⟩), .pointer (some ⟨g2, 0, none⟩)] : Array Value) = #[.int .i64 b0, .agg (u8s (partsL s)), .pointer (some ⟨g, 0, none⟩), .pointer (some ⟨g2, 0, none⟩)] from rfl]
  exact stretch1_c0 p n m k x b0 A l c g g2 s hs hp5 hv w hg hx
set_option maxHeartbeats 4000000 in
theorem specStretch_a (p n m k : Int) (A : Option Addr) (c : Nat) (ts : List (List Nat)) (x : Int) (w : World) (hR : RdT w A ts) (hlen : ts.length ≤ 1048576) (hs : borderB p n m k ts = false) :
    Calls Try.prog 23 #[.agg #[.int .i64 p, .int .i64 n, .int .i64 m, .int .i64 k, .slice A ts.length c], .int .i64 x] w (ResD w (outZ (sbCode p n m k ts x) p) (outZ (sbCode p n m k ts x) n) (outZ (sbCode p n m k ts x) m) (outZ (sbCode p n m k ts x) k) (outL (sbCode p n m k ts x) (ts.map (strT p x))) (sbCode p n m k ts x)) := by
  have hB := Below.refl w.heap.size w
  have HC : Hid (sbCode p n m k ts x = 1) := Lib.hid (by unfold sbCode; rw [hs]; rfl)
  have Hs := Lib.hid hs
  clear hs
  go_enter Try.func23, Try.ntmps23
  go_upto_region 0 with (fail)
  refine wp_region_lit ?_
  refine ls_op rfl (fun K' hK' => ?_)
  have lz1 := hB.size
  refine wp_new (some 2) rfl (exec_box 29 _ rfl (#[.int .i64 p, .int .i64 n, .int .i64 m, .int .i64 k, .slice A ts.length c]) rfl) (fun Wz2 nnz3 => ?_)
  have bz4 := nnz3.below (Below.refl _ _) (Nat.le_refl _)
  replace hB := below_after hB bz4
  have hz5 : At Wz2 w.heap.size (.cells #[.int .i64 p, .int .i64 n, .int .i64 m, .int .i64 k, .slice A ts.length c] 29 (0, 0)) := nnz3.at_
  refine hK' _ _ ?_
  clear hK' K' nnz3 bz4
  go_frame
  refine ls_op rfl (fun K' hK' => ?_)
  have lz6 := hB.size
  have lz7 := hz5.lt
  refine wp_new (some 4) rfl (al_impl_Border rfl) (fun Wz8 nnz9 => ?_)
  have bz10 := nnz9.below (Below.refl _ _) (Nat.le_refl _)
  replace hB := below_after hB bz10
  replace hz5 := hz5.after bz10
  have hz11 : At Wz8 Wz2.heap.size (.cells #[.int .i64 0, .int .i64 0, .int .i64 0, .int .i64 0, .slice none 0 0] 29 (0, 0)) := nnz9.at_
  refine hK' _ _ ?_
  clear hK' K' nnz9 bz10
  go_frame
  refine ls_ex (some 5) (.int .i64 0) rfl rfl (exec_assign _ rfl (.int .i64 0) rfl) ?_
  go_frame
  refine wpList_nil ?_
  go_upto_region 1 with (fail)
  refine wp_region_lit ?_
  refine ls_ex (some 11) (.agg #[.int .i64 p, .int .i64 n, .int .i64 m, .int .i64 k, .slice A ts.length c]) rfl rfl (exec_load_all 29 _ rfl w.heap.size rfl _ _ _ hz5 Try.underlying29 rfl 5 (by kernel_rfl) rfl) ?_
  go_frame
  refine ls_op rfl (fun K' hK' => ?_)
  have lz14 := hB.size
  have lz15 := hz5.lt
  have lz16 := hz11.lt
  refine wp_call1 (some 12) rfl 31 _ _ rfl (fun args w => by kernel_rfl) _ rfl _ (l08Is_c p n m k A c ts _ (hR.keep hB) hlen) (fun e Wz12 h => ?_)
  obtain ⟨rfl, bz13⟩ := h
  replace hB := below_after hB bz13
  replace hz5 := hz5.after bz13
  replace hz11 := hz11.after bz13
  rw [Hs.out]
  clear bz13
  refine ⟨_, rfl, ?_⟩
  refine hK' _ _ ?_
  clear hK' K'
  go_frame
  refine ls_ex (some 13) (.bool true) rfl rfl (exec_not _ _ rfl false rfl) ?_
  go_frame
  refine ls_ex (some 10) (.bool true) rfl rfl (exec_assign _ rfl (.bool true) rfl) ?_
  go_frame
  refine wpList_nil ?_
  go_upto_region 2 with (fail)
  refine wp_region_lit ?_
  refine ls_ex (some 14) (.agg #[.int .i64 0, .int .i64 0, .int .i64 0, .int .i64 0, .slice none 0 0]) rfl rfl (exec_build_nil 29 rfl _ (by kernel_rfl)) ?_
  go_frame
  refine ls_op rfl (fun K' hK' => ?_)
  refine wp_store_all 29 _ _ rfl rfl Wz2.heap.size rfl #[.int .i64 0, .int .i64 0, .int .i64 0, .int .i64 0, .slice none 0 0] rfl _ _ hz11 5 (by kernel_rfl) rfl rfl (one5 _ _ _ _ _ _ _) (fun Wz17 pz18 => ?_)
  replace hB := pz18.below hB (by omega)
  replace hz5 := pz18.other hz5 (by omega)
  replace hz11 : At Wz17 Wz2.heap.size (.cells #[.int .i64 0, .int .i64 0, .int .i64 0, .int .i64 0, .slice none 0 0] 29 (0, 0)) := pz18.at_
  refine hK' _ _ ?_
  clear hK' K' pz18
  refine ls_ex (some 5) (.int .i64 1) rfl rfl (exec_assign _ rfl (.int .i64 1) rfl) ?_
  go_frame
  refine wpList_nil ?_
  go_wp2_with fail
  refine bodyPost_ret (results_at2 rfl _ _ Wz2.heap.size _ _ _ rfl _ rfl hz11 Try.underlying29 rfl 5 (by kernel_rfl) rfl) rfl ?_
  unfold ResD outZ outL
  rw [HC.out]
  exact ⟨_, rfl, OwnT.nil _ _, hB⟩
set_option maxHeartbeats 4000000 in
theorem specStretch_b (p n m k : Int) (A : Option Addr) (c : Nat) (ts : List (List Nat)) (x : Int) (w : World) (hR : RdT w A ts) (hlen : ts.length ≤ 1048576) (hs : borderB p n m k ts = true) (hin : (decide (1 ≤ x) && decide (x ≤ p - 1)) = false) :
    Calls Try.prog 23 #[.agg #[.int .i64 p, .int .i64 n, .int .i64 m, .int .i64 k, .slice A ts.length c], .int .i64 x] w (ResD w (outZ (sbCode p n m k ts x) p) (outZ (sbCode p n m k ts x) n) (outZ (sbCode p n m k ts x) m) (outZ (sbCode p n m k ts x) k) (outL (sbCode p n m k ts x) (ts.map (strT p x))) (sbCode p n m k ts x)) := by
  have hB := Below.refl w.heap.size w
  have hp5 := primeB_b (sizesB_parts (borderB_all hs).1).1
  have HC : Hid (sbCode p n m k ts x = 2) := Lib.hid (by unfold sbCode; rw [hs, hin]; rfl)
  have Hs := Lib.hid hs
  have Hin := Lib.hid hin
  clear hs hin
  go_enter Try.func23, Try.ntmps23
  go_upto_region 0 with (fail)
  refine wp_region_lit ?_
  refine ls_op rfl (fun K' hK' => ?_)
  have lz1 := hB.size
  refine wp_new (some 2) rfl (exec_box 29 _ rfl (#[.int .i64 p, .int .i64 n, .int .i64 m, .int .i64 k, .slice A ts.length c]) rfl) (fun Wz2 nnz3 => ?_)
  have bz4 := nnz3.below (Below.refl _ _) (Nat.le_refl _)
  replace hB := below_after hB bz4
  have hz5 : At Wz2 w.heap.size (.cells #[.int .i64 p, .int .i64 n, .int .i64 m, .int .i64 k, .slice A ts.length c] 29 (0, 0)) := nnz3.at_
  refine hK' _ _ ?_
  clear hK' K' nnz3 bz4
  go_frame
  refine ls_op rfl (fun K' hK' => ?_)
  have lz6 := hB.size
  have lz7 := hz5.lt
  refine wp_new (some 4) rfl (al_impl_Border rfl) (fun Wz8 nnz9 => ?_)
  have bz10 := nnz9.below (Below.refl _ _) (Nat.le_refl _)
  replace hB := below_after hB bz10
  replace hz5 := hz5.after bz10
  have hz11 : At Wz8 Wz2.heap.size (.cells #[.int .i64 0, .int .i64 0, .int .i64 0, .int .i64 0, .slice none 0 0] 29 (0, 0)) := nnz9.at_
  refine hK' _ _ ?_
  clear hK' K' nnz9 bz10
  go_frame
  refine ls_ex (some 5) (.int .i64 0) rfl rfl (exec_assign _ rfl (.int .i64 0) rfl) ?_
  go_frame
  refine wpList_nil ?_
  go_upto_region 1 with (fail)
  refine wp_region_lit ?_
  refine ls_ex (some 11) (.agg #[.int .i64 p, .int .i64 n, .int .i64 m, .int .i64 k, .slice A ts.length c]) rfl rfl (exec_load_all 29 _ rfl w.heap.size rfl _ _ _ hz5 Try.underlying29 rfl 5 (by kernel_rfl) rfl) ?_
  go_frame
  refine ls_op rfl (fun K' hK' => ?_)
  have lz14 := hB.size
  have lz15 := hz5.lt
  have lz16 := hz11.lt
  refine wp_call1 (some 12) rfl 31 _ _ rfl (fun args w => by kernel_rfl) _ rfl _ (l08Is_c p n m k A c ts _ (hR.keep hB) hlen) (fun e Wz12 h => ?_)
  obtain ⟨rfl, bz13⟩ := h
  replace hB := below_after hB bz13
  replace hz5 := hz5.after bz13
  replace hz11 := hz11.after bz13
  rw [Hs.out]
  clear bz13
  refine ⟨_, rfl, ?_⟩
  refine hK' _ _ ?_
  clear hK' K'
  go_frame
  refine ls_ex (some 13) (.bool false) rfl rfl (exec_not _ _ rfl true rfl) ?_
  go_frame
  refine ls_ex (some 10) (.bool false) rfl rfl (exec_assign _ rfl (.bool false) rfl) ?_
  go_frame
  refine wpList_nil ?_
  go_upto_region 3 with (fail)
  refine wp_region_lit ?_
  refine ls_ex (some 16) (.int .i64 x) rfl rfl (exec_move _ rfl (.int .i64 x) rfl) ?_
  go_frame
  refine ls_ex (some 17) (.pointer (some ⟨w.heap.size, 0, none⟩)) rfl rfl (exec_fieldAddr 29 _ 0 rfl _ (by kernel_rfl)) ?_
  go_frame
  refine ls_ex (some 18) (.int .i64 p) rfl rfl (exec_load_one 2 _ rfl w.heap.size 0 rfl (.int .i64 p) _ Try.underlying2 rfl (hz5.at_ 0)) ?_
  go_frame
  refine ls_ex (some 19) (.int .i64 (p - 1)) rfl rfl (exec_sub _ _ _ _ rfl p 1 (p - 1) rfl rfl (IntWalk.i64_in _ (by omega))) ?_
  go_frame
  refine ls_op rfl (fun K' hK' => ?_)
  have lz19 := hB.size
  have lz20 := hz5.lt
  have lz21 := hz11.lt
  refine wp_call3 (some 20) rfl 48 _ _ _ _ rfl (fun args w => by kernel_rfl) _ _ _ rfl rfl rfl _ (l01In_c x 1 (p - 1) _) (fun e Wz17 h => ?_)
  obtain ⟨rfl, rfl⟩ := h
  rw [Hin.out]
  refine ⟨_, rfl, ?_⟩
  refine hK' _ _ ?_
  clear hK' K'
  go_frame
  refine ls_ex (some 21) (.bool true) rfl rfl (exec_not _ _ rfl false rfl) ?_
  go_frame
  refine ls_ex (some 15) (.bool true) rfl rfl (exec_assign _ rfl (.bool true) rfl) ?_
  go_frame
  refine wpList_nil ?_
  go_upto_region 4 with (fail)
  refine wp_region_lit ?_
  refine ls_ex (some 22) (.agg #[.int .i64 0, .int .i64 0, .int .i64 0, .int .i64 0, .slice none 0 0]) rfl rfl (exec_build_nil 29 rfl _ (by kernel_rfl)) ?_
  go_frame
  refine ls_op rfl (fun K' hK' => ?_)
  refine wp_store_all 29 _ _ rfl rfl Wz2.heap.size rfl #[.int .i64 0, .int .i64 0, .int .i64 0, .int .i64 0, .slice none 0 0] rfl _ _ hz11 5 (by kernel_rfl) rfl rfl (one5 _ _ _ _ _ _ _) (fun Wz22 pz23 => ?_)
  replace hB := pz23.below hB (by omega)
  replace hz5 := pz23.other hz5 (by omega)
  replace hz11 : At Wz22 Wz2.heap.size (.cells #[.int .i64 0, .int .i64 0, .int .i64 0, .int .i64 0, .slice none 0 0] 29 (0, 0)) := pz23.at_
  refine hK' _ _ ?_
  clear hK' K' pz23
  refine ls_ex (some 5) (.int .i64 2) rfl rfl (exec_assign _ rfl (.int .i64 2) rfl) ?_
  go_frame
  refine wpList_nil ?_
  go_wp2_with fail
  refine bodyPost_ret (results_at2 rfl _ _ Wz2.heap.size _ _ _ rfl _ rfl hz11 Try.underlying29 rfl 5 (by kernel_rfl) rfl) rfl ?_
  unfold ResD outZ outL
  rw [HC.out]
  exact ⟨_, rfl, OwnT.nil _ _, hB⟩
set_option maxHeartbeats 4000000 in
theorem implStretch_a (p n m k : Int) (A : Option Addr) (c : Nat) (ts : List (List Nat)) (x : Int) (w : World) (hR : RdT w A ts) (hlen : ts.length ≤ 1048576) (hs : borderB p n m k ts = false) :
    Calls Try.prog 24 #[.agg #[.int .i64 p, .int .i64 n, .int .i64 m, .int .i64 k, .slice A ts.length c], .int .i64 x] w (ResD w (outZ (sbCode p n m k ts x) p) (outZ (sbCode p n m k ts x) n) (outZ (sbCode p n m k ts x) m) (outZ (sbCode p n m k ts x) k) (outL (sbCode p n m k ts x) (ts.map (strT p x))) (sbCode p n m k ts x)) := by
  have hB := Below.refl w.heap.size w
  have HC : Hid (sbCode p n m k ts x = 1) := Lib.hid (by unfold sbCode; rw [hs]; rfl)
  have Hs := Lib.hid hs
  clear hs
  go_enter Try.func24, Try.ntmps24
  go_upto_region 0 with (fail)
  refine wp_region_lit ?_
  refine ls_op rfl (fun K' hK' => ?_)
  have lz1 := hB.size
  refine wp_new (some 2) rfl (exec_box 29 _ rfl (#[.int .i64 p, .int .i64 n, .int .i64 m, .int .i64 k, .slice A ts.length c]) rfl) (fun Wz2 nnz3 => ?_)
  have bz4 := nnz3.below (Below.refl _ _) (Nat.le_refl _)
  replace hB := below_after hB bz4
  have hz5 : At Wz2 w.heap.size (.cells #[.int .i64 p, .int .i64 n, .int .i64 m, .int .i64 k, .slice A ts.length c] 29 (0, 0)) := nnz3.at_
  refine hK' _ _ ?_
  clear hK' K' nnz3 bz4
  go_frame
  refine ls_op rfl (fun K' hK' => ?_)
  have lz6 := hB.size
  have lz7 := hz5.lt
  refine wp_new (some 3) rfl (exec_box 2 _ rfl (#[.int .i64 x]) rfl) (fun Wz8 nnz9 => ?_)
  have bz10 := nnz9.below (Below.refl _ _) (Nat.le_refl _)
  replace hB := below_after hB bz10
  replace hz5 := hz5.after bz10
  have hz11 : At Wz8 Wz2.heap.size (.cells #[.int .i64 x] 2 (0, 0)) := nnz9.at_
  refine hK' _ _ ?_
  clear hK' K' nnz9 bz10
  go_frame
  refine ls_op rfl (fun K' hK' => ?_)
  have lz12 := hB.size
  have lz13 := hz5.lt
  have lz14 := hz11.lt
  refine wp_new (some 4) rfl (al_impl_Border rfl) (fun Wz15 nnz16 => ?_)
  have bz17 := nnz16.below (Below.refl _ _) (Nat.le_refl _)
  replace hB := below_after hB bz17
  replace hz5 := hz5.after bz17
  replace hz11 := hz11.after bz17
  have hz18 : At Wz15 Wz8.heap.size (.cells #[.int .i64 0, .int .i64 0, .int .i64 0, .int .i64 0, .slice none 0 0] 29 (0, 0)) := nnz16.at_
  refine hK' _ _ ?_
  clear hK' K' nnz16 bz17
  go_frame
  refine ls_ex (some 5) (.int .i64 0) rfl rfl (exec_assign _ rfl (.int .i64 0) rfl) ?_
  go_frame
  refine wpList_nil ?_
  go_upto_region 1 with (fail)
  refine wp_region_lit ?_
  refine ls_ex (some 6) (.agg #[.int .i64 p, .int .i64 n, .int .i64 m, .int .i64 k, .slice A ts.length c]) rfl rfl (exec_load_all 29 _ rfl w.heap.size rfl _ _ _ hz5 Try.underlying29 rfl 5 (by kernel_rfl) rfl) ?_
  go_frame
  refine ls_op rfl (fun K' hK' => ?_)
  have lz21 := hB.size
  have lz22 := hz5.lt
  have lz23 := hz11.lt
  have lz24 := hz18.lt
  refine wp_call1 (some 7) rfl 11 _ _ rfl (fun args w => by kernel_rfl) _ rfl _ (implIsBorder_c p n m k A c ts _ (hR.keep hB) hlen) (fun e Wz19 h => ?_)
  obtain ⟨rfl, bz20⟩ := h
  replace hB := below_after hB bz20
  replace hz5 := hz5.after bz20
  replace hz11 := hz11.after bz20
  replace hz18 := hz18.after bz20
  rw [Hs.out]
  clear bz20
  refine ⟨_, rfl, ?_⟩
  refine hK' _ _ ?_
  clear hK' K'
  go_frame
  refine ls_ex (some 8) (.bool true) rfl rfl (exec_not _ _ rfl false rfl) ?_
  go_frame
  refine wpList_nil ?_
  go_upto_region 2 with (fail)
  refine wp_region_lit ?_
  refine ls_ex (some 9) (.agg #[.int .i64 0, .int .i64 0, .int .i64 0, .int .i64 0, .slice none 0 0]) rfl rfl (exec_build_nil 29 rfl _ (by kernel_rfl)) ?_
  go_frame
  refine ls_op rfl (fun K' hK' => ?_)
  refine wp_store_all 29 _ _ rfl rfl Wz8.heap.size rfl #[.int .i64 0, .int .i64 0, .int .i64 0, .int .i64 0, .slice none 0 0] rfl _ _ hz18 5 (by kernel_rfl) rfl rfl (one5 _ _ _ _ _ _ _) (fun Wz25 pz26 => ?_)
  replace hB := pz26.below hB (by omega)
  replace hz5 := pz26.other hz5 (by omega)
  replace hz11 := pz26.other hz11 (by omega)
  replace hz18 : At Wz25 Wz8.heap.size (.cells #[.int .i64 0, .int .i64 0, .int .i64 0, .int .i64 0, .slice none 0 0] 29 (0, 0)) := pz26.at_
  refine hK' _ _ ?_
  clear hK' K' pz26
  refine ls_ex (some 5) (.int .i64 1) rfl rfl (exec_assign _ rfl (.int .i64 1) rfl) ?_
  go_frame
  refine wpList_nil ?_
  go_wp2_with fail
  refine bodyPost_ret (results_at2 rfl _ _ Wz8.heap.size _ _ _ rfl _ rfl hz18 Try.underlying29 rfl 5 (by kernel_rfl) rfl) rfl ?_
  unfold ResD outZ outL
  rw [HC.out]
  exact ⟨_, rfl, OwnT.nil _ _, hB⟩
set_option maxHeartbeats 4000000 in
theorem implStretch_b (p n m k : Int) (A : Option Addr) (c : Nat) (ts : List (List Nat)) (x : Int) (w : World) (hR : RdT w A ts) (hlen : ts.length ≤ 1048576) (hs : borderB p n m k ts = true) (hin : (decide (1 ≤ x) && decide (x ≤ p - 1)) = false) :
    Calls Try.prog 24 #[.agg #[.int .i64 p, .int .i64 n, .int .i64 m, .int .i64 k, .slice A ts.length c], .int .i64 x] w (ResD w (outZ (sbCode p n m k ts x) p) (outZ (sbCode p n m k ts x) n) (outZ (sbCode p n m k ts x) m) (outZ (sbCode p n m k ts x) k) (outL (sbCode p n m k ts x) (ts.map (strT p x))) (sbCode p n m k ts x)) := by
  have hB := Below.refl w.heap.size w
  have hp5 := primeB_b (sizesB_parts (borderB_all hs).1).1
  have HC : Hid (sbCode p n m k ts x = 2) := Lib.hid (by unfold sbCode; rw [hs, hin]; rfl)
  have Hs := Lib.hid hs
  have Hin := Lib.hid hin
  clear hs hin
  go_enter Try.func24, Try.ntmps24
  go_upto_region 0 with (fail)
  refine wp_region_lit ?_
  refine ls_op rfl (fun K' hK' => ?_)
  have lz1 := hB.size
  refine wp_new (some 2) rfl (exec_box 29 _ rfl (#[.int .i64 p, .int .i64 n, .int .i64 m, .int .i64 k, .slice A ts.length c]) rfl) (fun Wz2 nnz3 => ?_)
  have bz4 := nnz3.below (Below.refl _ _) (Nat.le_refl _)
  replace hB := below_after hB bz4
  have hz5 : At Wz2 w.heap.size (.cells #[.int .i64 p, .int .i64 n, .int .i64 m, .int .i64 k, .slice A ts.length c] 29 (0, 0)) := nnz3.at_
  refine hK' _ _ ?_
  clear hK' K' nnz3 bz4
  go_frame
  refine ls_op rfl (fun K' hK' => ?_)
  have lz6 := hB.size
  have lz7 := hz5.lt
  refine wp_new (some 3) rfl (exec_box 2 _ rfl (#[.int .i64 x]) rfl) (fun Wz8 nnz9 => ?_)
  have bz10 := nnz9.below (Below.refl _ _) (Nat.le_refl _)
  replace hB := below_after hB bz10
  replace hz5 := hz5.after bz10
  have hz11 : At Wz8 Wz2.heap.size (.cells #[.int .i64 x] 2 (0, 0)) := nnz9.at_
  refine hK' _ _ ?_
  clear hK' K' nnz9 bz10
  go_frame
  refine ls_op rfl (fun K' hK' => ?_)
  have lz12 := hB.size
  have lz13 := hz5.lt
  have lz14 := hz11.lt
  refine wp_new (some 4) rfl (al_impl_Border rfl) (fun Wz15 nnz16 => ?_)
  have bz17 := nnz16.below (Below.refl _ _) (Nat.le_refl _)
  replace hB := below_after hB bz17
  replace hz5 := hz5.after bz17
  replace hz11 := hz11.after bz17
  have hz18 : At Wz15 Wz8.heap.size (.cells #[.int .i64 0, .int .i64 0, .int .i64 0, .int .i64 0, .slice none 0 0] 29 (0, 0)) := nnz16.at_
  refine hK' _ _ ?_
  clear hK' K' nnz16 bz17
  go_frame
  refine ls_ex (some 5) (.int .i64 0) rfl rfl (exec_assign _ rfl (.int .i64 0) rfl) ?_
  go_frame
  refine wpList_nil ?_
  go_upto_region 1 with (fail)
  refine wp_region_lit ?_
  refine ls_ex (some 6) (.agg #[.int .i64 p, .int .i64 n, .int .i64 m, .int .i64 k, .slice A ts.length c]) rfl rfl (exec_load_all 29 _ rfl w.heap.size rfl _ _ _ hz5 Try.underlying29 rfl 5 (by kernel_rfl) rfl) ?_
  go_frame
  refine ls_op rfl (fun K' hK' => ?_)
  have lz21 := hB.size
  have lz22 := hz5.lt
  have lz23 := hz11.lt
  have lz24 := hz18.lt
  refine wp_call1 (some 7) rfl 11 _ _ rfl (fun args w => by kernel_rfl) _ rfl _ (implIsBorder_c p n m k A c ts _ (hR.keep hB) hlen) (fun e Wz19 h => ?_)
  obtain ⟨rfl, bz20⟩ := h
  replace hB := below_after hB bz20
  replace hz5 := hz5.after bz20
  replace hz11 := hz11.after bz20
  replace hz18 := hz18.after bz20
  rw [Hs.out]
  clear bz20
  refine ⟨_, rfl, ?_⟩
  refine hK' _ _ ?_
  clear hK' K'
  go_frame
  refine ls_ex (some 8) (.bool false) rfl rfl (exec_not _ _ rfl true rfl) ?_
  go_frame
  refine wpList_nil ?_
  go_upto_region 3 with (fail)
  refine wp_region_lit ?_
  refine ls_ex (some 10) (.int .i64 x) rfl rfl (exec_load_one 2 _ rfl Wz2.heap.size 0 rfl (.int .i64 x) _ Try.underlying2 rfl (hz11.at_ 0)) ?_
  go_frame
  refine ls_ex (some 11) (.pointer (some ⟨w.heap.size, 0, none⟩)) rfl rfl (exec_fieldAddr 29 _ 0 rfl _ (by kernel_rfl)) ?_
  go_frame
  refine ls_ex (some 12) (.int .i64 p) rfl rfl (exec_load_one 2 _ rfl w.heap.size 0 rfl (.int .i64 p) _ Try.underlying2 rfl (hz5.at_ 0)) ?_
  go_frame
  refine ls_ex (some 13) (.int .i64 (p - 1)) rfl rfl (exec_sub _ _ _ _ rfl p 1 (p - 1) rfl rfl (IntWalk.i64_in _ (by omega))) ?_
  go_frame
  refine ls_op rfl (fun K' hK' => ?_)
  have lz27 := hB.size
  have lz28 := hz5.lt
  have lz29 := hz11.lt
  have lz30 := hz18.lt
  refine wp_call3 (some 14) rfl 57 _ _ _ _ rfl (fun args w => by kernel_rfl) _ _ _ rfl rfl rfl _ (isBetween_c 1 x (p - 1) _) (fun e Wz25 h => ?_)
  obtain ⟨rfl, rfl⟩ := h
  rw [Hin.out]
  refine ⟨_, rfl, ?_⟩
  refine hK' _ _ ?_
  clear hK' K'
  go_frame
  refine ls_ex (some 15) (.bool true) rfl rfl (exec_not _ _ rfl false rfl) ?_
  go_frame
  refine wpList_nil ?_
  go_upto_region 4 with (fail)
  refine wp_region_lit ?_
  refine ls_ex (some 16) (.agg #[.int .i64 0, .int .i64 0, .int .i64 0, .int .i64 0, .slice none 0 0]) rfl rfl (exec_build_nil 29 rfl _ (by kernel_rfl)) ?_
  go_frame
  refine ls_op rfl (fun K' hK' => ?_)
  refine wp_store_all 29 _ _ rfl rfl Wz8.heap.size rfl #[.int .i64 0, .int .i64 0, .int .i64 0, .int .i64 0, .slice none 0 0] rfl _ _ hz18 5 (by kernel_rfl) rfl rfl (one5 _ _ _ _ _ _ _) (fun Wz31 pz32 => ?_)
  replace hB := pz32.below hB (by omega)
  replace hz5 := pz32.other hz5 (by omega)
  replace hz11 := pz32.other hz11 (by omega)
  replace hz18 : At Wz31 Wz8.heap.size (.cells #[.int .i64 0, .int .i64 0, .int .i64 0, .int .i64 0, .slice none 0 0] 29 (0, 0)) := pz32.at_
  refine hK' _ _ ?_
  clear hK' K' pz32
  refine ls_ex (some 5) (.int .i64 2) rfl rfl (exec_assign _ rfl (.int .i64 2) rfl) ?_
  go_frame
  refine wpList_nil ?_
  go_wp2_with fail
  refine bodyPost_ret (results_at2 rfl _ _ Wz8.heap.size _ _ _ rfl _ rfl hz18 Try.underlying29 rfl 5 (by kernel_rfl) rfl) rfl ?_
  unfold ResD outZ outL
  rw [HC.out]
  exact ⟨_, rfl, OwnT.nil _ _, hB⟩
set_option maxHeartbeats 12800000 in
theorem specStretch_v (p n m k : Int) (A : Option Addr) (c : Nat) (ts : List (List Nat)) (x : Int) (w : World) (hR : RdT w A ts) (hlen : ts.length ≤ 1048576) (hs : borderB p n m k ts = true) (hin : (decide (1 ≤ x) && decide (x ≤ p - 1)) = true) :
    Calls Try.prog 23 #[.agg #[.int .i64 p, .int .i64 n, .int .i64 m, .int .i64 k, .slice A ts.length c], .int .i64 x] w (ResD w (outZ (sbCode p n m k ts x) p) (outZ (sbCode p n m k ts x) n) (outZ (sbCode p n m k ts x) m) (outZ (sbCode p n m k ts x) k) (outL (sbCode p n m k ts x) (ts.map (strT p x))) (sbCode p n m k ts x)) := by
  have hB := Below.refl w.heap.size w
  have hp5 := primeB_b (sizesB_parts (borderB_all hs).1).1
  have hv : 1 ≤ x ∧ x ≤ p - 1 := by simpa only [Bool.and_eq_true, decide_eq_true_eq] using hin
  have HC : Hid (sbCode p n m k ts x = 0) := Lib.hid (by unfold sbCode; rw [hs, hin]; rfl)
  replace hlen : ts.length ≤ 1000000 := by have h := (borderB_all hs).2.1; omega
  have Hs := Lib.hid hs
  have Hin := Lib.hid hin
  clear hs hin
  go_enter Try.func23, Try.ntmps23
  go_upto_region 0 with (fail)
  refine wp_region_lit ?_
  refine ls_op rfl (fun K' hK' => ?_)
  have lz1 := hB.size
  refine wp_new (some 2) rfl (exec_box 29 _ rfl (#[.int .i64 p, .int .i64 n, .int .i64 m, .int .i64 k, .slice A ts.length c]) rfl) (fun Wz2 nnz3 => ?_)
  have bz4 := nnz3.below (Below.refl _ _) (Nat.le_refl _)
  replace hB := below_after hB bz4
  have hz5 : At Wz2 w.heap.size (.cells #[.int .i64 p, .int .i64 n, .int .i64 m, .int .i64 k, .slice A ts.length c] 29 (0, 0)) := nnz3.at_
  refine hK' _ _ ?_
  clear hK' K' nnz3 bz4
  go_frame
  refine ls_op rfl (fun K' hK' => ?_)
  have lz6 := hB.size
  have lz7 := hz5.lt
  refine wp_new (some 4) rfl (al_impl_Border rfl) (fun Wz8 nnz9 => ?_)
  have bz10 := nnz9.below (Below.refl _ _) (Nat.le_refl _)
  replace hB := below_after hB bz10
  replace hz5 := hz5.after bz10
  have hz11 : At Wz8 Wz2.heap.size (.cells #[.int .i64 0, .int .i64 0, .int .i64 0, .int .i64 0, .slice none 0 0] 29 (0, 0)) := nnz9.at_
  refine hK' _ _ ?_
  clear hK' K' nnz9 bz10
  go_frame
  refine ls_ex (some 5) (.int .i64 0) rfl rfl (exec_assign _ rfl (.int .i64 0) rfl) ?_
  go_frame
  refine wpList_nil ?_
  go_upto_region 1 with (fail)
  refine wp_region_lit ?_
  refine ls_ex (some 11) (.agg #[.int .i64 p, .int .i64 n, .int .i64 m, .int .i64 k, .slice A ts.length c]) rfl rfl (exec_load_all 29 _ rfl w.heap.size rfl _ _ _ hz5 Try.underlying29 rfl 5 (by kernel_rfl) rfl) ?_
  go_frame
  refine ls_op rfl (fun K' hK' => ?_)
  have lz14 := hB.size
  have lz15 := hz5.lt
  have lz16 := hz11.lt
  refine wp_call1 (some 12) rfl 31 _ _ rfl (fun args w => by kernel_rfl) _ rfl _ (l08Is_c p n m k A c ts _ (hR.keep hB) (by omega)) (fun e Wz12 h => ?_)
  obtain ⟨rfl, bz13⟩ := h
  replace hB := below_after hB bz13
  replace hz5 := hz5.after bz13
  replace hz11 := hz11.after bz13
  rw [Hs.out]
  clear bz13
  refine ⟨_, rfl, ?_⟩
  refine hK' _ _ ?_
  clear hK' K'
  go_frame
  refine ls_ex (some 13) (.bool false) rfl rfl (exec_not _ _ rfl true rfl) ?_
  go_frame
  refine ls_ex (some 10) (.bool false) rfl rfl (exec_assign _ rfl (.bool false) rfl) ?_
  go_frame
  refine wpList_nil ?_
  go_upto_region 3 with (fail)
  refine wp_region_lit ?_
  refine ls_ex (some 16) (.int .i64 x) rfl rfl (exec_move _ rfl (.int .i64 x) rfl) ?_
  go_frame
  refine ls_ex (some 17) (.pointer (some ⟨w.heap.size, 0, none⟩)) rfl rfl (exec_fieldAddr 29 _ 0 rfl _ (by kernel_rfl)) ?_
  go_frame
  refine ls_ex (some 18) (.int .i64 p) rfl rfl (exec_load_one 2 _ rfl w.heap.size 0 rfl (.int .i64 p) _ Try.underlying2 rfl (hz5.at_ 0)) ?_
  go_frame
  refine ls_ex (some 19) (.int .i64 (p - 1)) rfl rfl (exec_sub _ _ _ _ rfl p 1 (p - 1) rfl rfl (IntWalk.i64_in _ (by omega))) ?_
  go_frame
  refine ls_op rfl (fun K' hK' => ?_)
  have lz19 := hB.size
  have lz20 := hz5.lt
  have lz21 := hz11.lt
  refine wp_call3 (some 20) rfl 48 _ _ _ _ rfl (fun args w => by kernel_rfl) _ _ _ rfl rfl rfl _ (l01In_c x 1 (p - 1) _) (fun e Wz17 h => ?_)
  obtain ⟨rfl, rfl⟩ := h
  rw [Hin.out]
  refine ⟨_, rfl, ?_⟩
  refine hK' _ _ ?_
  clear hK' K'
  go_frame
  refine ls_ex (some 21) (.bool false) rfl rfl (exec_not _ _ rfl true rfl) ?_
  go_frame
  refine ls_ex (some 15) (.bool false) rfl rfl (exec_assign _ rfl (.bool false) rfl) ?_
  go_frame
  refine wpList_nil ?_
  go_upto_region 5 with (fail)
  go_cut [6, 7] from 23 to 27 (fun s6 s7 wx => ∃ B : Nat, ∃ v : Value, s6 = .pointer (some ⟨B, 0, none⟩) ∧ s7 = .int .i64 p ∧ w.heap.size < B ∧ Wz2.heap.size < B ∧ Below w.heap.size w wx ∧ At wx w.heap.size (.cells #[.int .i64 p, .int .i64 n, .int .i64 m, .int .i64 k, .slice A ts.length c] 29 (0, 0)) ∧ At wx Wz2.heap.size (.cells #[.int .i64 0, .int .i64 0, .int .i64 0, .int .i64 0, .slice none 0 0] 29 (0, 0)) ∧ At wx B (.cells #[.int .i64 p, .int .i64 n, .int .i64 m, .int .i64 k, v] 29 (0, 0)) ∧ OwnT wx w.heap.size v [])
  case first =>
    refine wp_region_y (zs := []) (S := fun w' => Below w.heap.size w w' ∧ At w' w.heap.size (.cells #[.int .i64 p, .int .i64 n, .int .i64 m, .int .i64 k, .slice A ts.length c] 29 (0, 0))) (S2 := fun w' => True) (by kernel_rfl) ?_
    change wpAnyY _ _ _ _ _ _ _ _ _ _ (World.drew _)
    generalize hwdz22 : World.drew _ = wdz22
    replace hB : Below w.heap.size w wdz22 := by rw [← hwdz22]; exact hB.drew
    replace hz5 : At wdz22 w.heap.size (.cells #[.int .i64 p, .int .i64 n, .int .i64 m, .int .i64 k, .slice A ts.length c] 29 (0, 0)) := by rw [← hwdz22]; exact hz5
    replace hz11 : At wdz22 Wz2.heap.size (.cells #[.int .i64 0, .int .i64 0, .int .i64 0, .int .i64 0, .slice none 0 0] 29 (0, 0)) := by rw [← hwdz22]; exact hz11
    clear hwdz22
    refine y_yield 0 (some 23) (.agg #[.int .i64 p, .int .i64 n, .int .i64 m, .int .i64 k, .slice A ts.length c]) rfl (by kernel_rfl) (by kernel_rfl) (by kernel_rfl) (fun _ _ _ h => h) rfl rfl ⟨hB, hz5⟩ (fun w' h' => exec_load_all 29 _ rfl w.heap.size rfl _ _ _ h'.2 Try.underlying29 rfl 5 (by kernel_rfl) rfl) ?_
    go_frame
    refine y_yield 3 (some 26) (.pointer (some ⟨w.heap.size, 0, none⟩)) rfl (by kernel_rfl) (by kernel_rfl) (by kernel_rfl) (fun _ _ _ h => h) rfl rfl ⟨hB, hz5⟩ (fun w' h' => exec_fieldAddr 29 _ 0 rfl _ (by kernel_rfl)) ?_
    go_frame
    refine y_yield 4 (some 27) (.int .i64 p) rfl (by kernel_rfl) (by kernel_rfl) (by kernel_rfl) (fun _ _ _ h => h) rfl rfl ⟨hB, hz5⟩ (fun w' h' => exec_load_one 2 _ rfl w.heap.size 0 rfl (.int .i64 p) _ Try.underlying2 rfl (h'.2.at_ 0)) ?_
    go_frame
    refine y_two 1 5 (by kernel_rfl) rfl rfl rfl rfl (fun K' hK' => ?_) (fun K' hK' => ?_)
    · have lz25 := hB.size
      have lz26 := hz5.lt
      have lz27 := hz11.lt
      refine wp_call1 (some 24) rfl 49 _ _ rfl (fun args w => by kernel_rfl) _ rfl _ (l08Like_c p n m k A ts.length c _) (fun e Wz23 h => ?_)
      obtain ⟨v7, rfl, ho7, bz24⟩ := h
      replace hB := below_after hB bz24
      replace hz5 := hz5.after bz24
      replace hz11 := hz11.after bz24
      obtain ⟨A7, c7, rfl, _⟩ := ho7.rdc0
      clear ho7
      clear bz24
      refine ⟨_, rfl, ?_⟩
      refine hK' _ _ ⟨hB, hz5⟩ (fun _ => trivial) ?_
      clear hK' K'
      go_frame
      refine y_two 2 5 (by kernel_rfl) rfl rfl rfl rfl (fun K' hK' => ?_) (fun K' hK' => ?_)
      · have lz30 := hB.size
        have lz31 := hz5.lt
        have lz32 := hz11.lt
        have lo9 := hB.size
        refine wp_call1 (some 25) rfl 41 _ _ rfl (fun args w => by kernel_rfl) _ rfl _ (l08Of0_c p n m k A7 c7 _) (fun e Wz28 h => ?_)
        obtain ⟨v9, rfl, ho, bz29⟩ := h
        replace hB := below_after hB bz29
        replace hz5 := hz5.after bz29
        replace hz11 := hz11.after bz29
        obtain ⟨A9, c9, rfl⟩ := OwnT.rdN ho (n := 0) rfl
        clear bz29
        refine ⟨_, rfl, ?_⟩
        refine hK' _ _ ⟨hB, hz5⟩ (fun _ => trivial) ?_
        clear hK' K'
        go_frame
        refine y_oper 5 (by kernel_rfl) rfl rfl (fun K' hK' => ?_)
        have lz33 := hB.size
        have lz34 := hz5.lt
        have lz35 := hz11.lt
        have naz40 := ho.away_new
        refine wp_new (some 6) rfl (al_impl_Border rfl) (fun Wz36 nnz37 => ?_)
        have bz38 := nnz37.below (Below.refl _ _) (Nat.le_refl _)
        replace hB := below_after hB bz38
        replace hz5 := hz5.after bz38
        replace hz11 := hz11.after bz38
        replace ho := ho.below bz38
        have hz39 : At Wz36 Wz28.heap.size (.cells #[.int .i64 0, .int .i64 0, .int .i64 0, .int .i64 0, .slice none 0 0] 29 (0, 0)) := nnz37.at_
        refine hK' _ _ ⟨hB, hz5⟩ (fun _ => trivial) ?_
        clear hK' K' nnz37 bz38
        go_frame
        refine y_oper 6 (by kernel_rfl) rfl rfl (fun K' hK' => ?_)
        refine wp_store_all 29 _ _ rfl rfl Wz28.heap.size rfl #[.int .i64 p, .int .i64 n, .int .i64 m, .int .i64 k, .slice A9 0 c9] rfl _ _ hz39 5 (by kernel_rfl) rfl rfl (one5 _ _ _ _ _ _ _) (fun Wz41 pz42 => ?_)
        replace hB := pz42.below hB (by omega)
        replace hz5 := pz42.other hz5 (by omega)
        replace hz11 := pz42.other hz11 (by omega)
        replace ho := ho.put pz42 naz40
        replace hz39 : At Wz41 Wz28.heap.size (.cells #[.int .i64 p, .int .i64 n, .int .i64 m, .int .i64 k, .slice A9 0 c9] 29 (0, 0)) := pz42.at_
        refine hK' _ _ ⟨hB, hz5⟩ (fun _ => trivial) ?_
        clear hK' K' pz42
        refine y_oper 7 (by kernel_rfl) rfl rfl (fun K' hK' => ?_)
        refine wp_exec (some 7) rfl (.int .i64 p) (exec_assign _ rfl (.int .i64 p) rfl) ?_
        refine hK' _ _ ⟨hB, hz5⟩ (fun _ => trivial) ?_
        clear hK' K'
        go_frame
        refine y_done (by kernel_rfl) ?_ _
        go_wp2_with fail
        go_meet
        exact ⟨_, _, rfl, rfl, by omega, by omega, hB, hz5, hz11, hz39, ho.mono (by omega)⟩
      · have lz43 := hB.size
        have lz44 := hz5.lt
        have lz45 := hz11.lt
        refine wp_new (some 6) rfl (al_impl_Border rfl) (fun Wz46 nnz47 => ?_)
        have bz48 := nnz47.below (Below.refl _ _) (Nat.le_refl _)
        replace hB := below_after hB bz48
        replace hz5 := hz5.after bz48
        replace hz11 := hz11.after bz48
        have hz49 : At Wz46 Wz23.heap.size (.cells #[.int .i64 0, .int .i64 0, .int .i64 0, .int .i64 0, .slice none 0 0] 29 (0, 0)) := nnz47.at_
        refine hK' _ _ ⟨hB, hz5⟩ (fun _ => trivial) ?_
        clear hK' K' nnz47 bz48
        go_frame
        refine y_oper 2 (by kernel_rfl) rfl rfl (fun K' hK' => ?_)
        have lz52 := hB.size
        have lz53 := hz5.lt
        have lz54 := hz11.lt
        have lz55 := hz49.lt
        have lo9 := hB.size
        refine wp_call1 (some 25) rfl 41 _ _ rfl (fun args w => by kernel_rfl) _ rfl _ (l08Of0_c p n m k A7 c7 _) (fun e Wz50 h => ?_)
        obtain ⟨v9, rfl, ho, bz51⟩ := h
        replace hB := below_after hB bz51
        replace hz5 := hz5.after bz51
        replace hz11 := hz11.after bz51
        replace hz49 := hz49.after bz51
        obtain ⟨A9, c9, rfl⟩ := OwnT.rdN ho (n := 0) rfl
        clear bz51
        refine ⟨_, rfl, ?_⟩
        refine hK' _ _ ⟨hB, hz5⟩ (fun _ => trivial) ?_
        clear hK' K'
        go_frame
        refine y_oper 6 (by kernel_rfl) rfl rfl (fun K' hK' => ?_)
        refine wp_store_all 29 _ _ rfl rfl Wz23.heap.size rfl #[.int .i64 p, .int .i64 n, .int .i64 m, .int .i64 k, .slice A9 0 c9] rfl _ _ hz49 5 (by kernel_rfl) rfl rfl (one5 _ _ _ _ _ _ _) (fun Wz56 pz57 => ?_)
        replace hB := pz57.below hB (by omega)
        replace hz5 := pz57.other hz5 (by omega)
        replace hz11 := pz57.other hz11 (by omega)
        replace ho := ho.put pz57 (ho.off hz49 (by decide))
        replace hz49 : At Wz56 Wz23.heap.size (.cells #[.int .i64 p, .int .i64 n, .int .i64 m, .int .i64 k, .slice A9 0 c9] 29 (0, 0)) := pz57.at_
        refine hK' _ _ ⟨hB, hz5⟩ (fun _ => trivial) ?_
        clear hK' K' pz57
        refine y_oper 7 (by kernel_rfl) rfl rfl (fun K' hK' => ?_)
        refine wp_exec (some 7) rfl (.int .i64 p) (exec_assign _ rfl (.int .i64 p) rfl) ?_
        refine hK' _ _ ⟨hB, hz5⟩ (fun _ => trivial) ?_
        clear hK' K'
        go_frame
        refine y_done (by kernel_rfl) ?_ _
        go_wp2_with fail
        go_meet
        exact ⟨_, _, rfl, rfl, by omega, by omega, hB, hz5, hz11, hz49, ho.mono (by omega)⟩
    · have lz58 := hB.size
      have lz59 := hz5.lt
      have lz60 := hz11.lt
      refine wp_new (some 6) rfl (al_impl_Border rfl) (fun Wz61 nnz62 => ?_)
      have bz63 := nnz62.below (Below.refl _ _) (Nat.le_refl _)
      replace hB := below_after hB bz63
      replace hz5 := hz5.after bz63
      replace hz11 := hz11.after bz63
      have hz64 : At Wz61 wdz22.heap.size (.cells #[.int .i64 0, .int .i64 0, .int .i64 0, .int .i64 0, .slice none 0 0] 29 (0, 0)) := nnz62.at_
      refine hK' _ _ ⟨hB, hz5⟩ (fun _ => trivial) ?_
      clear hK' K' nnz62 bz63
      go_frame
      refine y_oper 1 (by kernel_rfl) rfl rfl (fun K' hK' => ?_)
      have lz67 := hB.size
      have lz68 := hz5.lt
      have lz69 := hz11.lt
      have lz70 := hz64.lt
      refine wp_call1 (some 24) rfl 49 _ _ rfl (fun args w => by kernel_rfl) _ rfl _ (l08Like_c p n m k A ts.length c _) (fun e Wz65 h => ?_)
      obtain ⟨v7, rfl, ho7, bz66⟩ := h
      replace hB := below_after hB bz66
      replace hz5 := hz5.after bz66
      replace hz11 := hz11.after bz66
      replace hz64 := hz64.after bz66
      obtain ⟨A7, c7, rfl, _⟩ := ho7.rdc0
      clear ho7
      clear bz66
      refine ⟨_, rfl, ?_⟩
      refine hK' _ _ ⟨hB, hz5⟩ (fun _ => trivial) ?_
      clear hK' K'
      go_frame
      refine y_oper 2 (by kernel_rfl) rfl rfl (fun K' hK' => ?_)
      have lz73 := hB.size
      have lz74 := hz5.lt
      have lz75 := hz11.lt
      have lz76 := hz64.lt
      have lo9 := hB.size
      refine wp_call1 (some 25) rfl 41 _ _ rfl (fun args w => by kernel_rfl) _ rfl _ (l08Of0_c p n m k A7 c7 _) (fun e Wz71 h => ?_)
      obtain ⟨v9, rfl, ho, bz72⟩ := h
      replace hB := below_after hB bz72
      replace hz5 := hz5.after bz72
      replace hz11 := hz11.after bz72
      replace hz64 := hz64.after bz72
      obtain ⟨A9, c9, rfl⟩ := OwnT.rdN ho (n := 0) rfl
      clear bz72
      refine ⟨_, rfl, ?_⟩
      refine hK' _ _ ⟨hB, hz5⟩ (fun _ => trivial) ?_
      clear hK' K'
      go_frame
      refine y_oper 6 (by kernel_rfl) rfl rfl (fun K' hK' => ?_)
      refine wp_store_all 29 _ _ rfl rfl wdz22.heap.size rfl #[.int .i64 p, .int .i64 n, .int .i64 m, .int .i64 k, .slice A9 0 c9] rfl _ _ hz64 5 (by kernel_rfl) rfl rfl (one5 _ _ _ _ _ _ _) (fun Wz77 pz78 => ?_)
      replace hB := pz78.below hB (by omega)
      replace hz5 := pz78.other hz5 (by omega)
      replace hz11 := pz78.other hz11 (by omega)
      replace ho := ho.put pz78 (ho.off hz64 (by decide))
      replace hz64 : At Wz77 wdz22.heap.size (.cells #[.int .i64 p, .int .i64 n, .int .i64 m, .int .i64 k, .slice A9 0 c9] 29 (0, 0)) := pz78.at_
      refine hK' _ _ ⟨hB, hz5⟩ (fun _ => trivial) ?_
      clear hK' K' pz78
      refine y_oper 7 (by kernel_rfl) rfl rfl (fun K' hK' => ?_)
      refine wp_exec (some 7) rfl (.int .i64 p) (exec_assign _ rfl (.int .i64 p) rfl) ?_
      refine hK' _ _ ⟨hB, hz5⟩ (fun _ => trivial) ?_
      clear hK' K'
      go_frame
      refine y_done (by kernel_rfl) ?_ _
      go_wp2_with fail
      go_meet
      exact ⟨_, _, rfl, rfl, by omega, by omega, hB, hz5, hz11, hz64, ho.mono (by omega)⟩
  case rest =>
  clear hB hz5 hz11
  obtain ⟨B, v, rfl, rfl, hB1, hB2, hB, h0, h1, h2, ho⟩ := hcut
  obtain ⟨wc, rfl⟩ := cut_world hB
  obtain ⟨A8, c8, rfl⟩ := OwnT.rdN ho (n := 0) rfl
  go_upto_region 6 with (fail)
  refine wp_region_lit ?_
  refine ls_ex (some 8) (.int .i64 0) rfl rfl (exec_assign _ rfl (.int .i64 0) rfl) ?_
  go_frame
  refine wpList_nil ?_
  go_wp2_with fail
  go_loopw [8] (fun s8 wr => ∃ (i : Nat) (v : Value), i ≤ ts.length ∧ s8 = .int .i64 i ∧ Below w.heap.size w wr ∧ At wr w.heap.size (.cells #[.int .i64 p, .int .i64 n, .int .i64 m, .int .i64 k, .slice A ts.length c] 29 (0, 0)) ∧ At wr Wz2.heap.size (.cells #[.int .i64 0, .int .i64 0, .int .i64 0, .int .i64 0, .slice none 0 0] 29 (0, 0)) ∧ At wr B (.cells #[.int .i64 p, .int .i64 n, .int .i64 m, .int .i64 k, v] 29 (0, 0)) ∧ OwnT wr w.heap.size v ((ts.take i).map (strT p x))) (fun s8 _ => ts.length - (intOf s8).toNat)
  case atStart => exact ⟨0, _, by omega, rfl, hB, h0, h1, h2, ho⟩
  case round =>
    clear hB h0 h1 h2 ho
    obtain ⟨i, v, hi, rfl, hB, h0, h1, h2, ho⟩ := hrel
    by_cases hlt : i < ts.length
    · obtain ⟨b, off, rfl, hc⟩ := (hR.keep hB).at_ hlt
      clear hc
      have hq := hR.good _ (List.getElem_mem hlt)
      have Hq108 := Lib.hid hq.len
      obtain ⟨A9, c9, rfl⟩ := OwnT.rdN ho (n := i) (map_take_len hi)
      have HT : Hid ((ts.take i).map (strT p x) ++ [strT p x ts[i]] = (ts.take (i + 1)).map (strT p x)) := Lib.hid (map_take_step hlt)
      go_upto_region 7 with (fail)
      refine wp_region_lit ?_
      refine ls_ex (some 28) (.int .i64 i) rfl rfl (exec_move _ rfl (.int .i64 i) rfl) ?_
      go_frame
      refine ls_ex (some 29) (.pointer (some ⟨w.heap.size, 4, none⟩)) rfl rfl (exec_fieldAddr 29 _ 4 rfl _ (by kernel_rfl)) ?_
      go_frame
      refine ls_ex (some 30) (.slice (some ⟨b, off, none⟩) ts.length c) rfl rfl (exec_load_one 27 _ rfl w.heap.size 4 rfl (.slice (some ⟨b, off, none⟩) ts.length c) _ Try.underlying27 rfl (h0.at_ 4)) ?_
      go_frame
      refine ls_ex (some 31) (.int .i64 ts.length) rfl rfl (exec_len _ 27 63 rfl ((some ⟨b, off, none⟩)) ts.length c rfl Try.underlying27) ?_
      go_frame
      refine ls_ex (some 32) (.bool true) rfl rfl (exec_lss _ _ _ _ rfl i ts.length rfl rfl true (decide_eq_true (by omega))) ?_
      go_frame
      refine wpList_nil ?_
      go_upto_region 9 with (fail)
      refine wp_region_lit ?_
      refine ls_ex (some 35) (.pointer (some ⟨w.heap.size, 4, none⟩)) rfl rfl (exec_fieldAddr 29 _ 4 rfl _ (by kernel_rfl)) ?_
      go_frame
      refine ls_ex (some 36) (.slice (some ⟨b, off, none⟩) ts.length c) rfl rfl (exec_load_one 27 _ rfl w.heap.size 4 rfl (.slice (some ⟨b, off, none⟩) ts.length c) _ Try.underlying27 rfl (h0.at_ 4)) ?_
      go_frame
      refine ls_ex (some 37) (.int .i64 i) rfl rfl (exec_move _ rfl (.int .i64 i) rfl) ?_
      go_frame
      refine ls_ex (some 38) (.pointer (some ⟨b, off + i * 108, none⟩)) rfl rfl (exec_index_slice _ 63 _ _ rfl b off ts.length c i 108 rfl rfl Try.underlying27 (by kernel_rfl) (by omega)) ?_
      go_frame
      refine ls_ex (some 39) (.agg (u8s (ts[i]))) rfl rfl (exec_load_cells 63 _ rfl b (off + i * 108) rfl ts[i] _ 108 (RdT.c108 (hR.keep hB) hlt) Try.underlying63 rfl (by kernel_rfl) Hq108.out) ?_
      go_frame
      refine ls_op rfl (fun K' hK' => ?_)
      have lz79 := hB.size
      have lz80 := h0.lt
      have lz81 := h1.lt
      have lz82 := h2.lt
      have naz87 := ho.away_new
      refine wp_new (some 9) rfl (al_impl_Twig rfl) (fun Wz83 nnz84 => ?_)
      have bz85 := nnz84.below (Below.refl _ _) (Nat.le_refl _)
      replace hB := below_after hB bz85
      replace h0 := h0.after bz85
      replace h1 := h1.after bz85
      replace h2 := h2.after bz85
      replace ho := ho.below bz85
      have hz86 : At Wz83 wr.heap.size (.cells (u8s (List.replicate 108 0)) 63 (0, 0)) := nnz84.at_
      refine hK' _ _ ?_
      clear hK' K' nnz84 bz85
      go_frame
      refine ls_op rfl (fun K' hK' => ?_)
      refine wp_store_bytes 63 _ _ rfl rfl wr.heap.size rfl (ts[i]) rfl _ _ hz86 108 (by kernel_rfl) Hq108.out (by simp) (fun Wz88 pz89 => ?_)
      replace hB := pz89.below hB (by omega)
      replace h0 := pz89.other h0 (by omega)
      replace h1 := pz89.other h1 (by omega)
      replace h2 := pz89.other h2 (by omega)
      replace ho := ho.put pz89 naz87
      replace hz86 : At Wz88 wr.heap.size (.cells (u8s (ts[i])) 63 (0, 0)) := pz89.at_
      refine hK' _ _ ?_
      clear hK' K' pz89
      refine wpList_nil ?_
      go_upto_region 10 with (fail)
      refine wp_region_y (zs := [21]) (S := fun w' => Below w.heap.size w w' ∧ At w' wr.heap.size (.cells (u8s (ts[i])) 63 (0, 0))) (S2 := fun w' => At w' B (.cells #[.int .i64 p, .int .i64 n, .int .i64 m, .int .i64 k, .slice A9 i c9] 29 (0, 0))) (by kernel_rfl) ?_
      change wpAnyY _ _ _ _ _ _ _ _ _ _ (World.drew _)
      generalize hwdz90 : World.drew _ = wdz90
      replace hB : Below w.heap.size w wdz90 := by rw [← hwdz90]; exact hB.drew
      replace h0 : At wdz90 w.heap.size (.cells #[.int .i64 p, .int .i64 n, .int .i64 m, .int .i64 k, .slice (some ⟨b, off, none⟩) ts.length c] 29 (0, 0)) := by rw [← hwdz90]; exact h0
      replace h1 : At wdz90 Wz2.heap.size (.cells #[.int .i64 0, .int .i64 0, .int .i64 0, .int .i64 0, .slice none 0 0] 29 (0, 0)) := by rw [← hwdz90]; exact h1
      replace h2 : At wdz90 B (.cells #[.int .i64 p, .int .i64 n, .int .i64 m, .int .i64 k, .slice A9 i c9] 29 (0, 0)) := by rw [← hwdz90]; exact h2
      replace ho : OwnT wdz90 w.heap.size (.slice A9 i c9) ((ts.take i).map (strT p x)) := by rw [← hwdz90]; exact ho.drew
      replace hz86 : At wdz90 wr.heap.size (.cells (u8s (ts[i])) 63 (0, 0)) := by rw [← hwdz90]; exact hz86
      clear hwdz90
      refine y_yield 0 (some 40) (.pointer (some ⟨B, 4, none⟩)) rfl (by kernel_rfl) (by kernel_rfl) (by kernel_rfl) (fun _ _ _ h => h) rfl rfl ⟨hB, hz86⟩ (fun w' h' => exec_fieldAddr 29 _ 4 rfl _ (by kernel_rfl)) ?_
      go_frame
      refine y_yield3 1 (some 41) (.slice A9 i c9) rfl 22 (by kernel_rfl) (by kernel_rfl) (by kernel_rfl) (by kernel_rfl) (by kernel_rfl) (fun _ _ _ h => h) rfl rfl ⟨hB, hz86⟩ h2 (fun w' h' h2' => exec_load_one 27 _ rfl B 4 rfl (.slice A9 i c9) _ Try.underlying27 rfl (h2'.at_ 4)) ?_
      go_frame
      refine y_yield 2 (some 42) (.int .i64 p) rfl (by kernel_rfl) (by kernel_rfl) (by kernel_rfl) (fun _ _ _ h => h) rfl rfl ⟨hB, hz86⟩ (fun w' h' => exec_move _ rfl (.int .i64 p) rfl) ?_
      go_frame
      refine y_yield 3 (some 43) (.pointer (some ⟨wr.heap.size, 0, none⟩)) rfl (by kernel_rfl) (by kernel_rfl) (by kernel_rfl) (fun _ _ _ h => h) rfl rfl ⟨hB, hz86⟩ (fun w' h' => exec_fieldAddr 63 _ 0 rfl _ (by kernel_rfl)) ?_
      go_frame
      refine y_yield 4 (some 44) (.agg (u8s (segm (ts[i]) 0 36))) rfl (by kernel_rfl) (by kernel_rfl) (by kernel_rfl) (fun _ _ _ h => h) rfl rfl ⟨hB, hz86⟩ (fun w' h' => exec_load_seg 61 _ rfl wr.heap.size (0) rfl _ (ts[i]) _ 36 h'.2 Try.underlying61 rfl (by kernel_rfl) (by rw [Hq108.out]; omega) (segm (ts[i]) 0 36) rfl) ?_
      go_frame
      refine y_yield 5 (some 45) (.int .i64 x) rfl (by kernel_rfl) (by kernel_rfl) (by kernel_rfl) (fun _ _ _ h => h) rfl rfl ⟨hB, hz86⟩ (fun w' h' => exec_move _ rfl (.int .i64 x) rfl) ?_
      go_frame
      refine y_yield 7 (some 47) (.int .i64 p) rfl (by kernel_rfl) (by kernel_rfl) (by kernel_rfl) (fun _ _ _ h => h) rfl rfl ⟨hB, hz86⟩ (fun w' h' => exec_move _ rfl (.int .i64 p) rfl) ?_
      go_frame
      refine y_yield 8 (some 48) (.pointer (some ⟨wr.heap.size, 36, none⟩)) rfl (by kernel_rfl) (by kernel_rfl) (by kernel_rfl) (fun _ _ _ h => h) rfl rfl ⟨hB, hz86⟩ (fun w' h' => exec_fieldAddr 63 _ 1 rfl _ (by kernel_rfl)) ?_
      go_frame
      refine y_yield 9 (some 49) (.agg (u8s (segm (ts[i]) 36 36))) rfl (by kernel_rfl) (by kernel_rfl) (by kernel_rfl) (fun _ _ _ h => h) rfl rfl ⟨hB, hz86⟩ (fun w' h' => exec_load_seg 61 _ rfl wr.heap.size (36) rfl _ (ts[i]) _ 36 h'.2 Try.underlying61 rfl (by kernel_rfl) (by rw [Hq108.out]; omega) (segm (ts[i]) 36 36) rfl) ?_
      go_frame
      refine y_yield 10 (some 50) (.int .i64 x) rfl (by kernel_rfl) (by kernel_rfl) (by kernel_rfl) (fun _ _ _ h => h) rfl rfl ⟨hB, hz86⟩ (fun w' h' => exec_move _ rfl (.int .i64 x) rfl) ?_
      go_frame
      refine y_yield 12 (some 52) (.int .i64 p) rfl (by kernel_rfl) (by kernel_rfl) (by kernel_rfl) (fun _ _ _ h => h) rfl rfl ⟨hB, hz86⟩ (fun w' h' => exec_move _ rfl (.int .i64 p) rfl) ?_
      go_frame
      refine y_yield 13 (some 53) (.pointer (some ⟨wr.heap.size, 72, none⟩)) rfl (by kernel_rfl) (by kernel_rfl) (by kernel_rfl) (fun _ _ _ h => h) rfl rfl ⟨hB, hz86⟩ (fun w' h' => exec_fieldAddr 63 _ 2 rfl _ (by kernel_rfl)) ?_
      go_frame
      refine y_yield 14 (some 54) (.agg (u8s (segm (ts[i]) 72 36))) rfl (by kernel_rfl) (by kernel_rfl) (by kernel_rfl) (fun _ _ _ h => h) rfl rfl ⟨hB, hz86⟩ (fun w' h' => exec_load_seg 61 _ rfl wr.heap.size (72) rfl _ (ts[i]) _ 36 h'.2 Try.underlying61 rfl (by kernel_rfl) (by rw [Hq108.out]; omega) (segm (ts[i]) 72 36) rfl) ?_
      go_frame
      refine y_yield 15 (some 55) (.int .i64 x) rfl (by kernel_rfl) (by kernel_rfl) (by kernel_rfl) (fun _ _ _ h => h) rfl rfl ⟨hB, hz86⟩ (fun w' h' => exec_move _ rfl (.int .i64 x) rfl) ?_
      go_frame
      refine y_oper 6 (by kernel_rfl) rfl rfl (fun K' hK' => ?_)
      have lz93 := hB.size
      have lz94 := h0.lt
      have lz95 := h1.lt
      have lz96 := h2.lt
      have lz97 := hz86.lt
      refine wp_call3 (some 46) rfl 56 _ _ _ _ rfl (fun args w => by kernel_rfl) _ _ _ rfl rfl rfl _ (l08Stretch_c p x (segm (ts[i]) 0 36) (segm_bytes hq (by omega)) hp5 hv _) (fun e Wz91 h => ?_)
      obtain ⟨rfl, bz92⟩ := h
      replace hB := below_after hB bz92
      replace h0 := h0.after bz92
      replace h1 := h1.after bz92
      replace h2 := h2.after bz92
      replace ho := ho.below bz92
      replace hz86 := hz86.after bz92
      clear bz92
      refine ⟨_, rfl, ?_⟩
      refine hK' _ _ ⟨hB, hz86⟩ (fun _ => h2) ?_
      clear hK' K'
      go_frame
      refine y_oper 11 (by kernel_rfl) rfl rfl (fun K' hK' => ?_)
      have lz100 := hB.size
      have lz101 := h0.lt
      have lz102 := h1.lt
      have lz103 := h2.lt
      have lz104 := hz86.lt
      refine wp_call3 (some 51) rfl 56 _ _ _ _ rfl (fun args w => by kernel_rfl) _ _ _ rfl rfl rfl _ (l08Stretch_c p x (segm (ts[i]) 36 36) (segm_bytes hq (by omega)) hp5 hv _) (fun e Wz98 h => ?_)
      obtain ⟨rfl, bz99⟩ := h
      replace hB := below_after hB bz99
      replace h0 := h0.after bz99
      replace h1 := h1.after bz99
      replace h2 := h2.after bz99
      replace ho := ho.below bz99
      replace hz86 := hz86.after bz99
      clear bz99
      refine ⟨_, rfl, ?_⟩
      refine hK' _ _ ⟨hB, hz86⟩ (fun _ => h2) ?_
      clear hK' K'
      go_frame
      refine y_oper 16 (by kernel_rfl) rfl rfl (fun K' hK' => ?_)
      have lz107 := hB.size
      have lz108 := h0.lt
      have lz109 := h1.lt
      have lz110 := h2.lt
      have lz111 := hz86.lt
      refine wp_call3 (some 56) rfl 56 _ _ _ _ rfl (fun args w => by kernel_rfl) _ _ _ rfl rfl rfl _ (l08Stretch_c p x (segm (ts[i]) 72 36) (segm_bytes hq (by omega)) hp5 hv _) (fun e Wz105 h => ?_)
      obtain ⟨rfl, bz106⟩ := h
      replace hB := below_after hB bz106
      replace h0 := h0.after bz106
      replace h1 := h1.after bz106
      replace h2 := h2.after bz106
      replace ho := ho.below bz106
      replace hz86 := hz86.after bz106
      clear bz106
      refine ⟨_, rfl, ?_⟩
      refine hK' _ _ ⟨hB, hz86⟩ (fun _ => h2) ?_
      clear hK' K'
      go_frame
      refine y_yield 17 (some 57) (.agg (u8s (catT (strS p x (segm ts[i] 0 36)) (strS p x (segm ts[i] 36 36)) (strS p x (segm ts[i] 72 36))))) rfl (by kernel_rfl) (by kernel_rfl) (by kernel_rfl) (fun _ _ _ h => h) rfl rfl ⟨hB, hz86⟩ (fun w' h' => exec_twig _ _ _ rfl (strS p x (segm ts[i] 0 36)) (strS p x (segm ts[i] 36 36)) (strS p x (segm ts[i] 72 36)) rfl rfl rfl (strS_len _ _ _) (strS_len _ _ _) (strS_len _ _ _)) ?_
      go_frame
      refine y_oper 18 (by kernel_rfl) rfl rfl (fun K' hK' => ?_)
      have lz112 := hB.size
      have lz113 := h0.lt
      have lz114 := h1.lt
      have lz115 := h2.lt
      have lz116 := hz86.lt
      refine wp_slice1T (some 58) rfl 27 63 _ rfl (strT p x ts[i]) rfl Try.underlying27 infoTwig (strT_bytes hp5 hq).len (fun Wz117 nnz118 => ?_)
      have bz119 := nnz118.below (Below.refl _ _) (Nat.le_refl _)
      replace hB := below_after hB bz119
      replace h0 := h0.after bz119
      replace h1 := h1.after bz119
      replace h2 := h2.after bz119
      replace ho := ho.below bz119
      replace hz86 := hz86.after bz119
      have hqz120 : At Wz117 Wz105.heap.size (.cells (u8s (strT p x ts[i])) 63 (0, 0)) := nnz118.at_
      refine hK' _ _ ⟨hB, hz86⟩ (fun _ => h2) ?_
      clear hK' K' nnz118 bz119
      go_frame
      refine y_oper 19 (by kernel_rfl) rfl rfl (fun K' hK' => ?_)
      have lz124 := hB.size
      have lz125 := h0.lt
      have lz126 := h1.lt
      have lz127 := h2.lt
      have lz128 := hz86.lt
      have lz129 := hqz120.lt
      refine wp_appT (some 59) rfl _ _ rfl (.slice A9 i c9) ((ts.take i).map (strT p x)) (strT p x ts[i]) rfl ho Wz105.heap.size rfl hqz120 (strT_bytes hp5 hq).len (by rw [map_take_len hi]; omega) (by omega) (fun v8 Wz121 noz123 grz122 => ?_)
      rw [HT.out] at noz123
      obtain ⟨A8, c8, rfl⟩ := OwnT.rdN noz123 (n := i + 1) (map_take_len (by omega))
      replace hB := below_grownT hB grz122 ho (by omega)
      replace h0 := h0.grown grz122 (ho.off h0 (by decide))
      replace h1 := h1.grown grz122 (ho.off h1 (by decide))
      replace h2 := h2.grown grz122 (ho.off h2 (by decide))
      replace hz86 := hz86.grown grz122 naz87
      replace ho := noz123
      refine hK' _ _ ⟨hB, hz86⟩ (fun _ => h2) ?_
      clear hK' K' grz122 hqz120
      go_frame
      refine y_yield 20 (some 60) (.pointer (some ⟨B, 4, none⟩)) rfl (by kernel_rfl) (by kernel_rfl) (by kernel_rfl) (fun _ _ _ h => h) rfl rfl ⟨hB, hz86⟩ (fun w' h' => exec_fieldAddr 29 _ 4 rfl _ (by kernel_rfl)) ?_
      go_frame
      refine y_oper 21 (by kernel_rfl) rfl rfl (fun K' hK' => ?_)
      refine wp_store_one 27 _ _ rfl rfl B 4 rfl (.slice A8 (i + 1) c8) rfl rfl rfl _ _ h2 (by kernel_rfl) (by simp) (fun Wz130 pz131 => ?_)
      replace hB := pz131.below hB (by omega)
      replace h0 := pz131.other h0 (by omega)
      replace h1 := pz131.other h1 (by omega)
      replace ho := ho.put pz131 (ho.off h2 (by decide))
      replace hz86 := pz131.other hz86 (by omega)
      replace h2 : At Wz130 B (.cells #[.int .i64 p, .int .i64 n, .int .i64 m, .int .i64 k, .slice A8 (i + 1) c8] 29 (0, 0)) := pz131.at_
      refine hK' _ _ ⟨hB, hz86⟩ (fun h => absurd (by decide) h) ?_
      clear hK' K' pz131
      refine y_done (by kernel_rfl) ?_ _
      go_upto_region 8 with (fail)
      refine wp_region_lit ?_
      refine ls_ex (some 33) (.int .i64 i) rfl rfl (exec_move _ rfl (.int .i64 i) rfl) ?_
      go_frame
      refine ls_ex (some 34) (.int .i64 (i + 1)) rfl rfl (exec_add _ _ _ _ rfl i 1 (i + 1) rfl rfl (IntWalk.i64_in _ (by omega))) ?_
      go_frame
      refine ls_ex (some 8) (.int .i64 (i + 1)) rfl rfl (exec_assign _ rfl (.int .i64 (i + 1)) rfl) ?_
      go_frame
      refine wpList_nil ?_
      go_wp2_with fail
      go_roundw
      case rel => exact ⟨i + 1, _, by omega, by go_num, hB, h0, h1, h2, ho⟩
      case measure => simp [intOf]; omega
    · obtain ⟨A9, c9, rfl⟩ := OwnT.rdN ho (n := i) (map_take_len hi)
      have HE : Hid ((ts.take i).map (strT p x) = ts.map (strT p x)) := Lib.hid (by rw [show i = ts.length by omega, List.take_length])
      rw [HE.out] at ho
      go_upto_region 7 with (fail)
      refine wp_region_lit ?_
      refine ls_ex (some 28) (.int .i64 i) rfl rfl (exec_move _ rfl (.int .i64 i) rfl) ?_
      go_frame
      refine ls_ex (some 29) (.pointer (some ⟨w.heap.size, 4, none⟩)) rfl rfl (exec_fieldAddr 29 _ 4 rfl _ (by kernel_rfl)) ?_
      go_frame
      refine ls_ex (some 30) (.slice A ts.length c) rfl rfl (exec_load_one 27 _ rfl w.heap.size 4 rfl (.slice A ts.length c) _ Try.underlying27 rfl (h0.at_ 4)) ?_
      go_frame
      refine ls_ex (some 31) (.int .i64 ts.length) rfl rfl (exec_len _ 27 63 rfl A ts.length c rfl Try.underlying27) ?_
      go_frame
      refine ls_ex (some 32) (.bool false) rfl rfl (exec_lss _ _ _ _ rfl i ts.length rfl rfl false (decide_eq_false (by omega))) ?_
      go_frame
      refine wpList_nil ?_
      go_upto_region 11 with (fail)
      refine wp_region_lit ?_
      refine ls_ex (some 61) (.agg #[.int .i64 p, .int .i64 n, .int .i64 m, .int .i64 k, .slice A9 i c9]) rfl rfl (exec_load_all 29 _ rfl B rfl _ _ _ h2 Try.underlying29 rfl 5 (by kernel_rfl) rfl) ?_
      go_frame
      refine ls_op rfl (fun K' hK' => ?_)
      refine wp_store_all 29 _ _ rfl rfl Wz2.heap.size rfl #[.int .i64 p, .int .i64 n, .int .i64 m, .int .i64 k, .slice A9 i c9] rfl _ _ h1 5 (by kernel_rfl) rfl rfl (one5 _ _ _ _ _ _ _) (fun Wz132 pz133 => ?_)
      replace hB := pz133.below hB (by omega)
      replace h0 := pz133.other h0 (by omega)
      replace h2 := pz133.other h2 (by omega)
      replace ho := ho.put pz133 (ho.off h1 (by decide))
      replace h1 : At Wz132 Wz2.heap.size (.cells #[.int .i64 p, .int .i64 n, .int .i64 m, .int .i64 k, .slice A9 i c9] 29 (0, 0)) := pz133.at_
      refine hK' _ _ ?_
      clear hK' K' pz133
      refine ls_ex (some 5) (.int .i64 0) rfl rfl (exec_assign _ rfl (.int .i64 0) rfl) ?_
      go_frame
      refine wpList_nil ?_
      go_wp2_with fail
      refine bodyPost_ret (results_at2 rfl _ _ Wz2.heap.size _ _ _ rfl _ rfl h1 Try.underlying29 rfl 5 (by kernel_rfl) rfl) rfl ?_
      unfold ResD outZ outL
      rw [HC.out]
      exact ⟨_, rfl, ho.mono (by omega), hB⟩
set_option maxHeartbeats 12800000 in
theorem implStretch_v (p n m k : Int) (A : Option Addr) (c : Nat) (ts : List (List Nat)) (x : Int) (w : World) (hR : RdT w A ts) (hlen : ts.length ≤ 1048576) (hs : borderB p n m k ts = true) (hin : (decide (1 ≤ x) && decide (x ≤ p - 1)) = true) :
    Calls Try.prog 24 #[.agg #[.int .i64 p, .int .i64 n, .int .i64 m, .int .i64 k, .slice A ts.length c], .int .i64 x] w (ResD w (outZ (sbCode p n m k ts x) p) (outZ (sbCode p n m k ts x) n) (outZ (sbCode p n m k ts x) m) (outZ (sbCode p n m k ts x) k) (outL (sbCode p n m k ts x) (ts.map (strT p x))) (sbCode p n m k ts x)) := by
  have hB := Below.refl w.heap.size w
  have hp5 := primeB_b (sizesB_parts (borderB_all hs).1).1
  have hv : 1 ≤ x ∧ x ≤ p - 1 := by simpa only [Bool.and_eq_true, decide_eq_true_eq] using hin
  have HC : Hid (sbCode p n m k ts x = 0) := Lib.hid (by unfold sbCode; rw [hs, hin]; rfl)
  replace hlen : ts.length ≤ 1000000 := by have h := (borderB_all hs).2.1; omega
  have Hs := Lib.hid hs
  have Hin := Lib.hid hin
  clear hs hin
  go_enter Try.func24, Try.ntmps24
  go_upto_region 0 with (fail)
  refine wp_region_lit ?_
  refine ls_op rfl (fun K' hK' => ?_)
  have lz1 := hB.size
  refine wp_new (some 2) rfl (exec_box 29 _ rfl (#[.int .i64 p, .int .i64 n, .int .i64 m, .int .i64 k, .slice A ts.length c]) rfl) (fun Wz2 nnz3 => ?_)
  have bz4 := nnz3.below (Below.refl _ _) (Nat.le_refl _)
  replace hB := below_after hB bz4
  have hz5 : At Wz2 w.heap.size (.cells #[.int .i64 p, .int .i64 n, .int .i64 m, .int .i64 k, .slice A ts.length c] 29 (0, 0)) := nnz3.at_
  refine hK' _ _ ?_
  clear hK' K' nnz3 bz4
  go_frame
  refine ls_op rfl (fun K' hK' => ?_)
  have lz6 := hB.size
  have lz7 := hz5.lt
  refine wp_new (some 3) rfl (exec_box 2 _ rfl (#[.int .i64 x]) rfl) (fun Wz8 nnz9 => ?_)
  have bz10 := nnz9.below (Below.refl _ _) (Nat.le_refl _)
  replace hB := below_after hB bz10
  replace hz5 := hz5.after bz10
  have hz11 : At Wz8 Wz2.heap.size (.cells #[.int .i64 x] 2 (0, 0)) := nnz9.at_
  refine hK' _ _ ?_
  clear hK' K' nnz9 bz10
  go_frame
  refine ls_op rfl (fun K' hK' => ?_)
  have lz12 := hB.size
  have lz13 := hz5.lt
  have lz14 := hz11.lt
  refine wp_new (some 4) rfl (al_impl_Border rfl) (fun Wz15 nnz16 => ?_)
  have bz17 := nnz16.below (Below.refl _ _) (Nat.le_refl _)
  replace hB := below_after hB bz17
  replace hz5 := hz5.after bz17
  replace hz11 := hz11.after bz17
  have hz18 : At Wz15 Wz8.heap.size (.cells #[.int .i64 0, .int .i64 0, .int .i64 0, .int .i64 0, .slice none 0 0] 29 (0, 0)) := nnz16.at_
  refine hK' _ _ ?_
  clear hK' K' nnz16 bz17
  go_frame
  refine ls_ex (some 5) (.int .i64 0) rfl rfl (exec_assign _ rfl (.int .i64 0) rfl) ?_
  go_frame
  refine wpList_nil ?_
  go_upto_region 1 with (fail)
  refine wp_region_lit ?_
  refine ls_ex (some 6) (.agg #[.int .i64 p, .int .i64 n, .int .i64 m, .int .i64 k, .slice A ts.length c]) rfl rfl (exec_load_all 29 _ rfl w.heap.size rfl _ _ _ hz5 Try.underlying29 rfl 5 (by kernel_rfl) rfl) ?_
  go_frame
  refine ls_op rfl (fun K' hK' => ?_)
  have lz21 := hB.size
  have lz22 := hz5.lt
  have lz23 := hz11.lt
  have lz24 := hz18.lt
  refine wp_call1 (some 7) rfl 11 _ _ rfl (fun args w => by kernel_rfl) _ rfl _ (implIsBorder_c p n m k A c ts _ (hR.keep hB) (by omega)) (fun e Wz19 h => ?_)
  obtain ⟨rfl, bz20⟩ := h
  replace hB := below_after hB bz20
  replace hz5 := hz5.after bz20
  replace hz11 := hz11.after bz20
  replace hz18 := hz18.after bz20
  rw [Hs.out]
  clear bz20
  refine ⟨_, rfl, ?_⟩
  refine hK' _ _ ?_
  clear hK' K'
  go_frame
  refine ls_ex (some 8) (.bool false) rfl rfl (exec_not _ _ rfl true rfl) ?_
  go_frame
  refine wpList_nil ?_
  go_upto_region 3 with (fail)
  refine wp_region_lit ?_
  refine ls_ex (some 10) (.int .i64 x) rfl rfl (exec_load_one 2 _ rfl Wz2.heap.size 0 rfl (.int .i64 x) _ Try.underlying2 rfl (hz11.at_ 0)) ?_
  go_frame
  refine ls_ex (some 11) (.pointer (some ⟨w.heap.size, 0, none⟩)) rfl rfl (exec_fieldAddr 29 _ 0 rfl _ (by kernel_rfl)) ?_
  go_frame
  refine ls_ex (some 12) (.int .i64 p) rfl rfl (exec_load_one 2 _ rfl w.heap.size 0 rfl (.int .i64 p) _ Try.underlying2 rfl (hz5.at_ 0)) ?_
  go_frame
  refine ls_ex (some 13) (.int .i64 (p - 1)) rfl rfl (exec_sub _ _ _ _ rfl p 1 (p - 1) rfl rfl (IntWalk.i64_in _ (by omega))) ?_
  go_frame
  refine ls_op rfl (fun K' hK' => ?_)
  have lz27 := hB.size
  have lz28 := hz5.lt
  have lz29 := hz11.lt
  have lz30 := hz18.lt
  refine wp_call3 (some 14) rfl 57 _ _ _ _ rfl (fun args w => by kernel_rfl) _ _ _ rfl rfl rfl _ (isBetween_c 1 x (p - 1) _) (fun e Wz25 h => ?_)
  obtain ⟨rfl, rfl⟩ := h
  rw [Hin.out]
  refine ⟨_, rfl, ?_⟩
  refine hK' _ _ ?_
  clear hK' K'
  go_frame
  refine ls_ex (some 15) (.bool false) rfl rfl (exec_not _ _ rfl true rfl) ?_
  go_frame
  refine wpList_nil ?_
  go_upto_region 5 with (fail)
  refine wp_region_lit ?_
  refine ls_ex (some 17) (.agg #[.int .i64 p, .int .i64 n, .int .i64 m, .int .i64 k, .slice A ts.length c]) rfl rfl (exec_load_all 29 _ rfl w.heap.size rfl _ _ _ hz5 Try.underlying29 rfl 5 (by kernel_rfl) rfl) ?_
  go_frame
  refine ls_ex (some 18) (.func (.func 58) #[] #[.pointer (some ⟨w.heap.size, 0, none⟩), .pointer (some ⟨Wz2.heap.size, 0, none⟩)]) rfl rfl (exec_mkfnB _ _ _ rfl (.pointer (some ⟨w.heap.size, 0, none⟩)) (.pointer (some ⟨Wz2.heap.size, 0, none⟩)) rfl rfl) ?_
  go_frame
  refine ls_op rfl (fun K' hK' => ?_)
  have lz33 := hB.size
  have lz34 := hz5.lt
  have lz35 := hz11.lt
  have lz36 := hz18.lt
  have lo9 := hB.size
  refine wp_call2 (some 19) rfl 54 _ _ _ rfl (fun args w => by kernel_rfl) _ _ rfl rfl _ (withEachSeries_c p n m k A c ts 58 #[.pointer (some ⟨w.heap.size, 0, none⟩), .pointer (some ⟨Wz2.heap.size, 0, none⟩)] (fun _ s => strS p x s) (fun _ s => partsL (strS p x s)) _ (hR.keep hB) hlen (fun _ _ => by kernel_rfl) (fun _ s _ _ => ⟨partsL_bytes (strS_bytes s hp5), serOf_parts _ (strS_len p x s)⟩) (fun _ s _ _ => strS_bytes s hp5) (fun b s w' _ hs hw => stretch1_c p n m k x b A ts.length c w.heap.size Wz2.heap.size s hs hp5 hv w' (hz5.after hw) (hz11.after hw))) (fun e Wz31 h => ?_)
  obtain ⟨v9, rfl, ho, bz32⟩ := h
  replace hB := below_after hB bz32
  replace hz5 := hz5.after bz32
  replace hz11 := hz11.after bz32
  replace hz18 := hz18.after bz32
  obtain ⟨A9, c9, rfl⟩ := OwnT.rdN ho (n := ts.length) (by simp)
  clear bz32
  refine ⟨_, rfl, ?_⟩
  refine hK' _ _ ?_
  clear hK' K'
  go_frame
  refine ls_op rfl (fun K' hK' => ?_)
  refine wp_store_all 29 _ _ rfl rfl Wz8.heap.size rfl #[.int .i64 p, .int .i64 n, .int .i64 m, .int .i64 k, .slice A9 ts.length c9] rfl _ _ hz18 5 (by kernel_rfl) rfl rfl (one5 _ _ _ _ _ _ _) (fun Wz37 pz38 => ?_)
  replace hB := pz38.below hB (by omega)
  replace hz5 := pz38.other hz5 (by omega)
  replace hz11 := pz38.other hz11 (by omega)
  replace ho := ho.put pz38 (ho.off hz18 (by decide))
  replace hz18 : At Wz37 Wz8.heap.size (.cells #[.int .i64 p, .int .i64 n, .int .i64 m, .int .i64 k, .slice A9 ts.length c9] 29 (0, 0)) := pz38.at_
  refine hK' _ _ ?_
  clear hK' K' pz38
  refine ls_ex (some 5) (.int .i64 0) rfl rfl (exec_assign _ rfl (.int .i64 0) rfl) ?_
  go_frame
  refine wpList_nil ?_
  go_wp2_with fail
  refine bodyPost_ret (results_at2 rfl _ _ Wz8.heap.size _ _ _ rfl _ rfl hz18 Try.underlying29 rfl 5 (by kernel_rfl) rfl) rfl ?_
  unfold ResD outZ outL
  rw [HC.out]
  exact ⟨_, rfl, ho.mono (by omega), hB⟩
theorem specStretchBorder_c (p n m k : Int) (A : Option Addr) (c : Nat) (ts : List (List Nat)) (x : Int) (w : World) (hR : RdT w A ts) (hlen : ts.length ≤ 1048576) : Calls Try.prog 23 #[.agg #[.int .i64 p, .int .i64 n, .int .i64 m, .int .i64 k, .slice A ts.length c], .int .i64 x] w (ResD w (outZ (sbCode p n m k ts x) p) (outZ (sbCode p n m k ts x) n) (outZ (sbCode p n m k ts x) m) (outZ (sbCode p n m k ts x) k) (outL (sbCode p n m k ts x) (ts.map (strT p x))) (sbCode p n m k ts x)) := by
  cases hs : borderB p n m k ts with
  | false => exact specStretch_a p n m k A c ts x w hR hlen hs
  | true =>
    cases hin : (decide (1 ≤ x) && decide (x ≤ p - 1)) with
    | false => exact specStretch_b p n m k A c ts x w hR hlen hs hin
    | true => exact specStretch_v p n m k A c ts x w hR hlen hs hin
theorem implStretchBorder_c (p n m k : Int) (A : Option Addr) (c : Nat) (ts : List (List Nat)) (x : Int) (w : World) (hR : RdT w A ts) (hlen : ts.length ≤ 1048576) : Calls Try.prog 24 #[.agg #[.int .i64 p, .int .i64 n, .int .i64 m, .int .i64 k, .slice A ts.length c], .int .i64 x] w (ResD w (outZ (sbCode p n m k ts x) p) (outZ (sbCode p n m k ts x) n) (outZ (sbCode p n m k ts x) m) (outZ (sbCode p n m k ts x) k) (outL (sbCode p n m k ts x) (ts.map (strT p x))) (sbCode p n m k ts x)) := by
  cases hs : borderB p n m k ts with
  | false => exact implStretch_a p n m k A c ts x w hR hlen hs
  | true =>
    cases hin : (decide (1 ≤ x) && decide (x ≤ p - 1)) with
    | false => exact implStretch_b p n m k A c ts x w hR hlen hs hin
    | true => exact implStretch_v p n m k A c ts x w hR hlen hs hin
theorem sb_bytes {p n m k x : Int} {ts : List (List Nat)} (h : ∀ q ∈ ts, Bytes 108 q) : ∀ r ∈ outL (sbCode p n m k ts x) (ts.map (strT p x)), Bytes 108 r := outL_bytes fun hc r hr => by
  obtain ⟨q, hq, rfl⟩ := List.mem_map.1 hr
  unfold sbCode at hc
  split at hc
  · next h2 => exact strT_bytes (primeB_b (sizesB_parts (borderB_all h2).1).1) (h q hq)
  · omega
theorem sb_len {p n m k x : Int} {ts : List (List Nat)} : (outL (sbCode p n m k ts x) (ts.map (strT p x))).length ≤ 1048576 := outL_len fun h => by
  unfold sbCode at h
  split at h
  · next h2 =>
    have := (borderB_all h2).2.1
    rw [List.length_map]
    omega
  · omega
end Go.Proofs.Ytlpdglmjejfmhaa
