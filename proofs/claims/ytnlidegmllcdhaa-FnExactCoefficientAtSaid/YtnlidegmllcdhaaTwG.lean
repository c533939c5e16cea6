/-
  CoefficientAt of both sides. (Made by mktwg.py.)
-/
import Derived.Test.YtnlidegmllcdhaaTwE
import Derived.Test.YtnlidegmllcdhaaLeft2
import Derived.Test.YtnlidegmllcdhaaLawCoefficientAt
namespace Go.Proofs.Ytnlidegmllcdhaa
open Go.RowKit
set_option maxRecDepth 100000

theorem zf_get {f : List Nat} (h : zeroB f = true) (i : Nat) : f[i]?.getD 0 = 0 := by
  unfold zeroB at h
  rw [beq_iff_eq] at h
  rw [h]
  simp only [List.getElem?_replicate]
  split <;> rfl
theorem segG (l : List Nat) (off n i : Nat) (hi : i < n) : (segm l off n)[i]?.getD 0 = l[off + i]?.getD 0 := by
  unfold segm
  rw [List.getElem?_take, if_pos hi, List.getElem?_drop]
theorem term_zero {q : List Nat} (h : nzB q = false) {x y z : Nat} (hx : x < 9) (hy : y < 9) (hz : z < 9) : termN q x y z = 0 := by
  unfold nzB at h
  unfold termN
  have e1 := segG q 0 9 x hx
  have e2 := segG q 9 9 y hy
  have e3 := segG q 18 9 z hz
  rw [Nat.zero_add] at e1
  rw [← e1, ← e2, ← e3]
  simp only [Bool.and_eq_false_iff, Bool.not_eq_false'] at h
  rcases h with (h | h) | h
  · rw [zf_get h]; simp
  · rw [zf_get h]; simp
  · rw [zf_get h]; simp
theorem term_pr {t : List Nat} (h i j : Nat) {x y z : Nat} (hx : x < 9) (hy : y < 9) (hz : z < 9) (hi : i < 4) (hj : j < 4) (hl : h - (i + j) ≤ 3) :
    termN (prQ h t i j) x y z = t[x * 4 + i]?.getD 0 * t[36 + y * 4 + j]?.getD 0 * t[72 + z * 4 + (h - (i + j))]?.getD 0 := by
  have hA : ∀ s k, (partL s k).length = 9 := fun s k => partL_len s k
  have e1 := segG (prQ h t i j) 0 9 x hx
  have e2 := segG (prQ h t i j) 9 9 y hy
  have e3 := segG (prQ h t i j) 18 9 z hz
  unfold prQ at e1 e2 e3
  rw [segm_a (hA _ _), Nat.zero_add, partL_get _ _ _ hx, segG _ _ _ _ (by omega), Nat.zero_add] at e1
  rw [segm_b (hA _ _) (hA _ _), partL_get _ _ _ hy, segG _ _ _ _ (by omega), ← Nat.add_assoc] at e2
  rw [segm_c (hA _ _) (hA _ _) (hA _ _), partL_get _ _ _ hz, segG _ _ _ _ (by omega), ← Nat.add_assoc] at e3
  unfold termN prQ
  rw [← e1, ← e2, ← e3]
theorem cf_in {pre : List (List Nat)} {h : Nat} {t : List Nat} {i j : Nat} {x y z : Nat} (hx : x < 9) (hy : y < 9) (hz : z < 9) (hi : i < 4) (hj : j < 4) (h1 : i + j ≤ h) (h2 : h - (i + j) ≤ 3) :
    sumN (exS pre h t i (j + 1)) x y z = sumN (exS pre h t i j) x y z + t[x * 4 + i]?.getD 0 * t[36 + y * 4 + j]?.getD 0 * t[72 + z * 4 + (h - (i + j))]?.getD 0 := by
  rw [← term_pr h i j hx hy hz hi hj h2, ← exS_put h1 h2]
  unfold putL
  rw [sumN_append]
  congr 1
  by_cases hn : nzB (prQ h t i j) = true
  · rw [if_pos hn]; simp [sumN]
  · rw [if_neg hn, term_zero (by simpa using hn) hx hy hz]; rfl
theorem exS_bytes {ts : List (List Nat)} (hts : ∀ t ∈ ts, Bytes 108 t) {h a i j : Nat} (ha : a < ts.length) : ∀ q ∈ exS (exL h (ts.take a)) h ts[a] i j, Bytes 27 q := fun q hq => by
  unfold exS at hq
  simp only [List.mem_append] at hq
  have ht := hts _ (List.getElem_mem ha)
  rcases hq with hq | hq | hq
  · exact exL_bytes (fun t h => hts t (List.mem_of_mem_take h)) h q hq
  · exact exI_bytes ht h i q hq
  · exact exR_bytes ht h i j q hq
theorem cf_le {ts : List (List Nat)} (hts : ∀ t ∈ ts, Bytes 108 t) (hl : ts.length ≤ 30) {h a i j : Nat} (ha : a < ts.length) (hi : i ≤ 4) (hj : j ≤ 4) (x y z : Nat) : sumN (exS (exL h (ts.take a)) h ts[a] i j) x y z ≤ 10000000000 := by
  have h1 := sumN_le (exS_bytes hts (h := h) (i := i) (j := j) ha) x y z
  have h2 := exS_len (pre := exL h (ts.take a)) (h := h) (t := ts[a]) (i := i) (j := j)
  have h3 := exL_len h ts a (by omega)
  have h4 : (exS (exL h (ts.take a)) h ts[a] i j).length ≤ 500 := by omega
  have h5 := Nat.mul_le_mul_right 16581375 h4
  omega
theorem cf_le2 {ts : List (List Nat)} (hts : ∀ t ∈ ts, Bytes 108 t) (hl : ts.length ≤ 30) (h x y z : Nat) : (exL h ts).length ≤ 500 ∧ sumN (exL h ts) x y z ≤ 10000000000 := by
  have h1 := sumN_le (exL_bytes hts h) x y z
  have h3 := exL_len h ts ts.length (Nat.le_refl _)
  rw [List.take_length] at h3
  have h4 : (exL h ts).length ≤ 500 := by omega
  have h5 := Nat.mul_le_mul_right 16581375 h4
  omega
theorem wrapM {u v P : Nat} (h : u * v = P) (hb : P ≤ 10000000000) : IntKind.i64.wrap ((u : Int) * (v : Int)) = (P : Int) := by
  rw [← Int.natCast_mul, h]
  exact IntWalk.i64_in _ (by omega)
theorem wrapA {u v P : Nat} (h : u + v = P) (hb : P ≤ 10000000000) : IntKind.i64.wrap ((u : Int) + (v : Int)) = (P : Int) := by
  rw [← Int.natCast_add, h]
  exact IntWalk.i64_in _ (by omega)
theorem exec_index_arr0z {P : Program} {o : Oper} {a : Act} {w : World} (ty e : TypeId) (x i : Operand) (ho : o.op = .indexAddr ty x i) (b off len k : Nat) (z : Int) (hx : a.eval x = .pointer (some ⟨b, off, none⟩)) (hi : a.eval i = .int .i64 z) (hz : z = (k : Int)) (hu : P.underlying ty = some (.array len e)) (hs : (P.info? e).map (·.size) = some 1) (hlt : k < len) : (execOp a.eval o).run P w = .ok (.value (.pointer (some ⟨b, off + k, none⟩))) w := by
  subst hz
  exact exec_index_arr1 ty e x i ho b off len k hx hi hu hs hlt
def cfI (p : Int) (ts : List (List Nat)) (x y z h : Int) : Int := ((sumN (exL h.toNat ts) x.toNat y.toNat z.toNat % p.toNat : Nat) : Int)
def cfOk (n m k x y z h : Int) : Bool := inB x (n * m) && inB y (m * k) && inB z (n * k) && (decide (0 ≤ h) && decide (h ≤ 9))
def cfCode (p n m k : Int) (ts : List (List Nat)) (x y z h : Int) : Int := if borderB p n m k ts = true then (if cfOk n m k x y z h = true then 0 else 2) else 1
def ifZ (code x : Int) : Int := if code = 0 then x else 0
theorem isPower_c (x : Int) (w : World) : Calls Try.prog 42 #[.int .i64 x] w fun e w' => e = .returned (.bool (decide (0 ≤ x) && decide (x ≤ 9))) ∧ w = w' := by
  go_enter Try.func42, Try.ntmps42
  go_wp2_with fail
  refine (isBetween_c 0 x 9 _).mono ?_
  rintro e w1 ⟨rfl, rfl⟩
  go_wp2_with fail
  go_ret
  exact ⟨rfl, rfl⟩
theorem leftI_c (p n m k : Int) (A : Option Addr) (cap : Nat) (qs : List (List Nat)) (a b : Nat) (w : World) (hp : 2 ≤ p ∧ p ≤ 5) (hr : Rd w A qs) (hl : qs.length ≤ 1000000) (ha : a < 9) (hb : b < 9) :
    Calls Try.prog 47 #[.agg #[.int .i64 p, .int .i64 n, .int .i64 m, .int .i64 k, .slice A qs.length cap], .int .i64 a, .int .i64 b] w fun e w' => e = .returned (.agg (u8s (sidesL p.toNat qs a b))) ∧ Below w.heap.size w w' := by
  have h := leftSides_c p.toNat n m k A cap qs a b w (by omega) (by omega) hr hl ha hb
  rw [show ((p.toNat : Nat) : Int) = p by omega] at h
  exact h
theorem exec_index_u8v {o : Oper} {a : Act} {w : World} (x i : Operand) (ho : o.op = .index 55 x i) (k v : Nat) (l : List Nat) (hx : a.eval x = .agg (u8s l)) (hi : a.eval i = .int .i64 k) (hl : l.length = 9) (hk : k < 9) (hv : l[k]?.getD 0 = v) :
    (execOp a.eval o).run Try.prog w = .ok (.value (.int .u8 (v : Int))) w := by
  subst hv
  exact exec_index_u8s 55 5 x i ho 9 k l hx hi Try.underlying55 Try.underlying5 (by kernel_rfl) hl hk
section
variable {P : Program} {Q : Exit → Act → World → Prop}
theorem wp_call5 {o : Oper} {a : Act} {w : World} {K : Act → World → Prop} (d : Option Tmp) (hd : o.dst = d) (f : Nat) (x y z u t : Operand) (ts : Array TypeId) (ho : o.op = .call { callee := .value (.func f), args := #[x, y, z, u, t], argTypes := ts }) (hcall : ∀ args w, (callFunc f args).run P w = .ok (.enter f args) w)
    (v1 v2 v3 v4 v5 : Value) (hx : a.eval x = v1) (hy : a.eval y = v2) (hz : a.eval z = v3) (hu : a.eval u = v4) (ht : a.eval t = v5) (post : Ending → World → Prop) (hc : Calls P f #[v1, v2, v3, v4, v5] w post) (h : ∀ e w', post e w' → ∃ v, e = .returned v ∧ K (a.put d v) w') : Oper.wp P o a w K Q :=
  wp_call d hd f #[x, y, z, u, t] ts ho hcall #[v1, v2, v3, v4, v5] (by simp [hx, hy, hz, hu, ht]) post hc h
end
attribute [local irreducible] wpList
set_option maxHeartbeats 25600000 in
theorem l08At_c (p n m k : Int) (A : Option Addr) (c : Nat) (ts : List (List Nat)) (x y z h : Nat) (hx : x < 9) (hy : y < 9) (hz : z < 9) (h9 : h ≤ 9) (hp5 : 2 ≤ p ∧ p ≤ 5) (w : World) (hR : RdT w A ts) (hlen : ts.length ≤ 30) :
    Calls Try.prog 45 #[.agg #[.int .i64 p, .int .i64 n, .int .i64 m, .int .i64 k, .slice A ts.length c], .int .i64 (x : Int), .int .i64 (y : Int), .int .i64 (z : Int), .int .i64 (h : Int)] w (fun e w' => e = .returned (.int .i64 ((sumN (exL h ts) x y z % p.toNat : Nat) : Int)) ∧ Below w.heap.size w w') := by
  have hB := Below.refl w.heap.size w
  skip
  go_enter Try.func45, Try.ntmps45
  go_upto_region 0 with (fail)
  refine wp_region_lit ?_
  refine ls_op rfl (fun K' hK' => ?_)
  have lz1 := hB.size
  refine wp_new (some 5) rfl (exec_box 33 _ rfl (#[.int .i64 p, .int .i64 n, .int .i64 m, .int .i64 k, .slice A ts.length c]) rfl) (fun Wz2 nnz3 => ?_)
  have bz4 := nnz3.below (Below.refl _ _) (Nat.le_refl _)
  replace hB := below_after hB bz4
  have hz5 : At Wz2 w.heap.size (.cells #[.int .i64 p, .int .i64 n, .int .i64 m, .int .i64 k, .slice A ts.length c] 33 (0, 0)) := nnz3.at_
  refine hK' _ _ ?_
  clear hK' K' nnz3 bz4
  go_frame
  refine ls_ex (some 10) (.int .i64 0) rfl rfl (exec_assign _ rfl (.int .i64 0) rfl) ?_
  go_frame
  refine wpList_nil ?_
  go_upto_region 1 with (fail)
  refine wp_region_lit ?_
  refine ls_ex (some 11) (.int .i64 0) rfl rfl (exec_assign _ rfl (.int .i64 0) rfl) ?_
  go_frame
  refine wpList_nil ?_
  go_upto_region 2 with (fail)
  refine wp_region_lit ?_
  refine ls_ex (some 12) (.int .i64 0) rfl rfl (exec_assign _ rfl (.int .i64 0) rfl) ?_
  go_frame
  refine wpList_nil ?_
  go_wp2_with fail
  go_loopw [11, 12] (fun s11 s12 wr => ∃ (a S : Nat), a ≤ ts.length ∧ s12 = .int .i64 a ∧ s11 = .int .i64 S ∧ S = sumN (exL h (ts.take a)) x y z ∧ Below w.heap.size w wr ∧ At wr w.heap.size (.cells #[.int .i64 p, .int .i64 n, .int .i64 m, .int .i64 k, .slice A ts.length c] 33 (0, 0))) (fun _ s12 _ => ts.length - (intOf s12).toNat)
  case atStart => exact ⟨0, 0, by omega, rfl, rfl, by simp [exL, sumN], hB, hz5⟩
  case round =>
    clear hB hz5
    obtain ⟨a, S, ha, rfl, rfl, hS, hB, h0⟩ := hrel
    by_cases hlt : a < ts.length
    · obtain ⟨b, off, rfl, hc⟩ := (hR.keep hB).at_ hlt
      clear hc
      have hq := hR.good _ (List.getElem_mem hlt)
      have Hq108 := Lib.hid hq.len
      have HS := Lib.hid hS
      clear hS
      go_upto_region 3 with (fail)
      refine wp_region_lit ?_
      refine ls_ex (some 17) (.int .i64 a) rfl rfl (exec_move _ rfl (.int .i64 a) rfl) ?_
      go_frame
      refine ls_ex (some 18) (.pointer (some ⟨w.heap.size, 4, none⟩)) rfl rfl (exec_fieldAddr 33 _ 4 rfl _ (by kernel_rfl)) ?_
      go_frame
      refine ls_ex (some 19) (.slice (some ⟨b, off, none⟩) ts.length c) rfl rfl (exec_load_one 31 _ rfl w.heap.size 4 rfl (.slice (some ⟨b, off, none⟩) ts.length c) _ Try.underlying31 rfl (h0.at_ 4)) ?_
      go_frame
      refine ls_ex (some 20) (.int .i64 ts.length) rfl rfl (exec_len _ 31 52 rfl ((some ⟨b, off, none⟩)) ts.length c rfl Try.underlying31) ?_
      go_frame
      refine ls_ex (some 21) (.bool true) rfl rfl (exec_lss _ _ _ _ rfl a ts.length rfl rfl true (decide_eq_true (by omega))) ?_
      go_frame
      refine wpList_nil ?_
      go_upto_region 5 with (fail)
      refine wp_region_lit ?_
      refine ls_ex (some 24) (.pointer (some ⟨w.heap.size, 4, none⟩)) rfl rfl (exec_fieldAddr 33 _ 4 rfl _ (by kernel_rfl)) ?_
      go_frame
      refine ls_ex (some 25) (.slice (some ⟨b, off, none⟩) ts.length c) rfl rfl (exec_load_one 31 _ rfl w.heap.size 4 rfl (.slice (some ⟨b, off, none⟩) ts.length c) _ Try.underlying31 rfl (h0.at_ 4)) ?_
      go_frame
      refine ls_ex (some 26) (.int .i64 a) rfl rfl (exec_move _ rfl (.int .i64 a) rfl) ?_
      go_frame
      refine ls_ex (some 27) (.pointer (some ⟨b, off + a * 108, none⟩)) rfl rfl (exec_index_slice _ 52 _ _ rfl b off ts.length c a 108 rfl rfl Try.underlying31 (by kernel_rfl) (by omega)) ?_
      go_frame
      refine ls_ex (some 28) (.agg (u8s (ts[a]))) rfl rfl (exec_load_cells 52 _ rfl b (off + a * 108) rfl ts[a] _ 108 (RdT.c108 (hR.keep hB) hlt) Try.underlying52 rfl (by kernel_rfl) Hq108.out) ?_
      go_frame
      refine ls_op rfl (fun K' hK' => ?_)
      have lz6 := hB.size
      have lz7 := h0.lt
      refine wp_new (some 13) rfl (al_impl_Twig rfl) (fun Wz8 nnz9 => ?_)
      have bz10 := nnz9.below (Below.refl _ _) (Nat.le_refl _)
      replace hB := below_after hB bz10
      replace h0 := h0.after bz10
      have hz11 : At Wz8 wr.heap.size (.cells (u8s (List.replicate 108 0)) 52 (0, 0)) := nnz9.at_
      refine hK' _ _ ?_
      clear hK' K' nnz9 bz10
      go_frame
      refine ls_op rfl (fun K' hK' => ?_)
      refine wp_store_bytes 52 _ _ rfl rfl wr.heap.size rfl (ts[a]) rfl _ _ hz11 108 (by kernel_rfl) Hq108.out (by simp) (fun Wz12 pz13 => ?_)
      replace hB := pz13.below hB (by omega)
      replace h0 := pz13.other h0 (by omega)
      replace hz11 : At Wz12 wr.heap.size (.cells (u8s (ts[a])) 52 (0, 0)) := pz13.at_
      refine hK' _ _ ?_
      clear hK' K' pz13
      refine wpList_nil ?_
      go_upto_region 6 with (fail)
      refine wp_region_lit ?_
      refine ls_ex (some 14) (.int .i64 0) rfl rfl (exec_assign _ rfl (.int .i64 0) rfl) ?_
      go_frame
      refine wpList_nil ?_
      go_wp2_with fail
      obtain ⟨we, rfl⟩ : ∃ x : World, x = wr := ⟨_, rfl⟩
      go_loopw [11, 14] (fun s11 s14 wr => ∃ (i S : Nat), i ≤ 4 ∧ s14 = .int .i64 i ∧ s11 = .int .i64 S ∧ S = sumN (exS (exL h (ts.take a)) h ts[a] i 0) x y z ∧ Below w.heap.size w wr ∧ At wr w.heap.size (.cells #[.int .i64 p, .int .i64 n, .int .i64 m, .int .i64 k, .slice (some ⟨b, off, none⟩) ts.length c] 33 (0, 0)) ∧ At wr we.heap.size (.cells (u8s ts[a]) 52 (0, 0))) (fun _ s14 _ => 4 - (intOf s14).toNat)
      case atStart => exact ⟨0, S, by omega, rfl, rfl, by rw [exS_start]; exact HS.out, hB, h0, hz11⟩
      case round =>
        clear hB h0 hz11
        obtain ⟨i, S, hi, rfl, rfl, hS, hB, h0, h3⟩ := hrel
        by_cases hi4 : i < 4
        · have HS := Lib.hid hS
          clear hS
          go_upto_region 7 with (fail)
          refine wp_region_lit ?_
          refine ls_ex (some 29) (.int .i64 i) rfl rfl (exec_move _ rfl (.int .i64 i) rfl) ?_
          go_frame
          refine ls_ex (some 30) (.bool true) rfl rfl (exec_lss _ _ _ _ rfl i 4 rfl rfl true (decide_eq_true (by omega))) ?_
          go_frame
          refine wpList_nil ?_
          go_upto_region 9 with (fail)
          refine wp_region_lit ?_
          refine ls_ex (some 15) (.int .i64 0) rfl rfl (exec_assign _ rfl (.int .i64 0) rfl) ?_
          go_frame
          refine wpList_nil ?_
          go_wp2_with fail
          obtain ⟨wf, rfl⟩ : ∃ x : World, x = wr := ⟨_, rfl⟩
          go_loopw [11, 15] (fun s11 s15 wr => ∃ (j S : Nat), j ≤ 4 ∧ s15 = .int .i64 j ∧ s11 = .int .i64 S ∧ S = sumN (exS (exL h (ts.take a)) h ts[a] i j) x y z ∧ Below w.heap.size w wr ∧ At wr w.heap.size (.cells #[.int .i64 p, .int .i64 n, .int .i64 m, .int .i64 k, .slice (some ⟨b, off, none⟩) ts.length c] 33 (0, 0)) ∧ At wr we.heap.size (.cells (u8s ts[a]) 52 (0, 0))) (fun _ s15 _ => 4 - (intOf s15).toNat)
          case atStart => exact ⟨0, S, by omega, rfl, rfl, HS.out, hB, h0, h3⟩
          case round =>
            clear hB h0 h3
            obtain ⟨j, S, hj, rfl, rfl, hS, hB, h0, h3⟩ := hrel
            by_cases hj4 : j < 4
            · by_cases hb : i + j ≤ h ∧ h - (i + j) ≤ 3
              · obtain ⟨u, hu9⟩ : ∃ n, ts[a][x * 4 + i]?.getD 0 = n := ⟨_, rfl⟩
                have Hu := Lib.hid hu9
                obtain ⟨v, hv9⟩ : ∃ n, ts[a][36 + y * 4 + j]?.getD 0 = n := ⟨_, rfl⟩
                have Hv := Lib.hid hv9
                obtain ⟨r, hr9⟩ : ∃ n, ts[a][72 + z * 4 + (h - (i + j))]?.getD 0 = n := ⟨_, rfl⟩
                have Hr := Lib.hid hr9
                have hu : u < 256 := by rw [← hu9]; exact hq.lt _
                have hv : v < 256 := by rw [← hv9]; exact hq.lt _
                have hr : r < 256 := by rw [← hr9]; exact hq.lt _
                have hm3 := mul3_le hu hv hr
                have hst := cf_in (pre := exL h (ts.take a)) (h := h) (t := ts[a]) hx hy hz hi4 hj4 hb.1 hb.2
                rw [hu9, hv9, hr9, ← hS] at hst
                have hbd := cf_le hR.good hlen (h := h) hlt (show i ≤ 4 by omega) (show j + 1 ≤ 4 by omega) x y z
                obtain ⟨P1, hP1⟩ : ∃ n, u * v = n := ⟨_, rfl⟩
                obtain ⟨P2, hP2⟩ : ∃ n, P1 * r = n := ⟨_, rfl⟩
                obtain ⟨S4, hS4⟩ : ∃ n, S + P2 = n := ⟨_, rfl⟩
                have HS4 : Hid (S4 = sumN (exS (exL h (ts.take a)) h ts[a] i (j + 1)) x y z) := Lib.hid (by rw [hst, ← hS4, ← hP2, ← hP1])
                have HM1 := Lib.hid (wrapM hP1 (by rw [← hP1]; omega))
                have HM2 := Lib.hid (wrapM hP2 (by rw [← hP2, ← hP1]; omega))
                have HM3 := Lib.hid (wrapA hS4 (by rw [HS4.out]; exact hbd))
                have HBt : Hid ((decide (0 ≤ ((h : Int) - (i : Int)) - (j : Int)) && decide (((h : Int) - (i : Int)) - (j : Int) ≤ 3)) = true) := Lib.hid (by rw [decide_eq_true (by omega), decide_eq_true (by omega)]; rfl)
                clear hu9 hv9 hr9 hst hbd hP1 hP2 hS4 hm3
                have HS := Lib.hid hS
                clear hS
                go_upto_region 10 with (fail)
                refine wp_region_lit ?_
                refine ls_ex (some 33) (.int .i64 j) rfl rfl (exec_move _ rfl (.int .i64 j) rfl) ?_
                go_frame
                refine ls_ex (some 34) (.bool true) rfl rfl (exec_lss _ _ _ _ rfl j 4 rfl rfl true (decide_eq_true (by omega))) ?_
                go_frame
                refine wpList_nil ?_
                go_upto_region 12 with (fail)
                refine wp_region_lit ?_
                refine ls_ex (some 37) (.int .i64 h) rfl rfl (exec_move _ rfl (.int .i64 h) rfl) ?_
                go_frame
                refine ls_ex (some 38) (.int .i64 i) rfl rfl (exec_move _ rfl (.int .i64 i) rfl) ?_
                go_frame
                refine ls_ex (some 39) (.int .i64 ((h : Int) - (i : Int))) rfl rfl (exec_sub _ _ _ _ rfl (h : Int) (i : Int) ((h : Int) - (i : Int)) rfl rfl (IntWalk.i64_in _ (by omega))) ?_
                go_frame
                refine ls_ex (some 40) (.int .i64 j) rfl rfl (exec_move _ rfl (.int .i64 j) rfl) ?_
                go_frame
                refine ls_ex (some 41) (.int .i64 (((h : Int) - (i : Int)) - (j : Int))) rfl rfl (exec_sub _ _ _ _ rfl ((h : Int) - (i : Int)) (j : Int) (((h : Int) - (i : Int)) - (j : Int)) rfl rfl (IntWalk.i64_in _ (by omega))) ?_
                go_frame
                refine ls_ex (some 16) (.int .i64 (((h : Int) - (i : Int)) - (j : Int))) rfl rfl (exec_assign _ rfl (.int .i64 (((h : Int) - (i : Int)) - (j : Int))) rfl) ?_
                go_frame
                refine wpList_nil ?_
                go_upto_region 13 with (fail)
                refine wp_region_lit ?_
                refine ls_ex (some 42) (.int .i64 (((h : Int) - (i : Int)) - (j : Int))) rfl rfl (exec_move _ rfl (.int .i64 (((h : Int) - (i : Int)) - (j : Int))) rfl) ?_
                go_frame
                refine ls_op rfl (fun K' hK' => ?_)
                have lz16 := hB.size
                have lz17 := h0.lt
                have lz18 := h3.lt
                refine wp_call3 (some 43) rfl 24 _ _ _ _ rfl (fun args w => by kernel_rfl) _ _ _ rfl rfl rfl _ (l01In_c (((h : Int) - (i : Int)) - (j : Int)) 0 3 _) (fun e Wz14 h => ?_)
                obtain ⟨rfl, rfl⟩ := h
                rw [HBt.out]
                refine ⟨_, rfl, ?_⟩
                refine hK' _ _ ?_
                clear hK' K'
                go_frame
                refine wpList_nil ?_
                go_upto_region 14 with (fail)
                refine wp_region_y (zs := []) (S := fun w' => Below w.heap.size w w' ∧ At w' we.heap.size (.cells (u8s (ts[a])) 52 (0, 0))) (S2 := fun w' => True) (by kernel_rfl) ?_
                change wpAnyY _ _ _ _ _ _ _ _ _ _ (World.drew _)
                generalize hwdz19 : World.drew _ = wdz19
                replace hB : Below w.heap.size w wdz19 := by rw [← hwdz19]; exact hB.drew
                replace h0 : At wdz19 w.heap.size (.cells #[.int .i64 p, .int .i64 n, .int .i64 m, .int .i64 k, .slice (some ⟨b, off, none⟩) ts.length c] 33 (0, 0)) := by rw [← hwdz19]; exact h0
                replace h3 : At wdz19 we.heap.size (.cells (u8s (ts[a])) 52 (0, 0)) := by rw [← hwdz19]; exact h3
                clear hwdz19
                refine y_yield 0 (some 44) (.int .i64 (S : Int)) rfl (by kernel_rfl) (by kernel_rfl) (by kernel_rfl) (fun _ _ _ h => h) rfl rfl ⟨hB, h3⟩ (fun w' h' => exec_move _ rfl (.int .i64 (S : Int)) rfl) ?_
                go_frame
                refine y_yield 1 (some 45) (.int .i64 x) rfl (by kernel_rfl) (by kernel_rfl) (by kernel_rfl) (fun _ _ _ h => h) rfl rfl ⟨hB, h3⟩ (fun w' h' => exec_move _ rfl (.int .i64 x) rfl) ?_
                go_frame
                refine y_yield 2 (some 46) (.int .i64 i) rfl (by kernel_rfl) (by kernel_rfl) (by kernel_rfl) (fun _ _ _ h => h) rfl rfl ⟨hB, h3⟩ (fun w' h' => exec_move _ rfl (.int .i64 i) rfl) ?_
                go_frame
                refine y_yield 3 (some 47) (.pointer (some ⟨we.heap.size, 0, none⟩)) rfl (by kernel_rfl) (by kernel_rfl) (by kernel_rfl) (fun _ _ _ h => h) rfl rfl ⟨hB, h3⟩ (fun w' h' => exec_fieldAddr 52 _ 0 rfl _ (by kernel_rfl)) ?_
                go_frame
                refine y_yield 4 (some 48) (.pointer (some ⟨we.heap.size, x * 4, none⟩)) rfl (by kernel_rfl) (by kernel_rfl) (by kernel_rfl) (fun _ _ _ h => h) rfl rfl ⟨hB, h3⟩ (fun w' h' => exec_index_arr0 50 48 _ _ rfl we.heap.size 9 x 4 rfl rfl Try.underlying50 (by kernel_rfl) hx) ?_
                go_frame
                refine y_yield 5 (some 49) (.pointer (some ⟨we.heap.size, x * 4 + i, none⟩)) rfl (by kernel_rfl) (by kernel_rfl) (by kernel_rfl) (fun _ _ _ h => h) rfl rfl ⟨hB, h3⟩ (fun w' h' => exec_index_arr1 48 5 _ _ rfl we.heap.size (x * 4) 4 i rfl rfl Try.underlying48 (by kernel_rfl) hi4) ?_
                go_frame
                refine y_yield 6 (some 50) (.int .u8 (u : Nat)) rfl (by kernel_rfl) (by kernel_rfl) (by kernel_rfl) (fun _ _ _ h => h) rfl rfl ⟨hB, h3⟩ (fun w' h' => exec_load_one 5 _ rfl we.heap.size (x * 4 + i) rfl (.int .u8 (u : Nat)) _ Try.underlying5 rfl (cellP h'.2 (by rw [Hq108.out]; omega) Hu.out)) ?_
                go_frame
                refine y_yield 7 (some 51) (.int .i64 (u : Int)) rfl (by kernel_rfl) (by kernel_rfl) (by kernel_rfl) (fun _ _ _ h => h) rfl rfl ⟨hB, h3⟩ (fun w' h' => exec_conv _ rfl u rfl hu) ?_
                go_frame
                refine y_yield 8 (some 52) (.int .i64 y) rfl (by kernel_rfl) (by kernel_rfl) (by kernel_rfl) (fun _ _ _ h => h) rfl rfl ⟨hB, h3⟩ (fun w' h' => exec_move _ rfl (.int .i64 y) rfl) ?_
                go_frame
                refine y_yield 9 (some 53) (.int .i64 j) rfl (by kernel_rfl) (by kernel_rfl) (by kernel_rfl) (fun _ _ _ h => h) rfl rfl ⟨hB, h3⟩ (fun w' h' => exec_move _ rfl (.int .i64 j) rfl) ?_
                go_frame
                refine y_yield 10 (some 54) (.pointer (some ⟨we.heap.size, 36, none⟩)) rfl (by kernel_rfl) (by kernel_rfl) (by kernel_rfl) (fun _ _ _ h => h) rfl rfl ⟨hB, h3⟩ (fun w' h' => exec_fieldAddr 52 _ 1 rfl _ (by kernel_rfl)) ?_
                go_frame
                refine y_yield 11 (some 55) (.pointer (some ⟨we.heap.size, 36 + y * 4, none⟩)) rfl (by kernel_rfl) (by kernel_rfl) (by kernel_rfl) (fun _ _ _ h => h) rfl rfl ⟨hB, h3⟩ (fun w' h' => exec_index_arr 50 48 _ _ rfl we.heap.size 36 9 y 4 rfl rfl Try.underlying50 (by kernel_rfl) hy) ?_
                go_frame
                refine y_yield 12 (some 56) (.pointer (some ⟨we.heap.size, 36 + y * 4 + j, none⟩)) rfl (by kernel_rfl) (by kernel_rfl) (by kernel_rfl) (fun _ _ _ h => h) rfl rfl ⟨hB, h3⟩ (fun w' h' => exec_index_arr1 48 5 _ _ rfl we.heap.size (36 + y * 4) 4 j rfl rfl Try.underlying48 (by kernel_rfl) hj4) ?_
                go_frame
                refine y_yield 13 (some 57) (.int .u8 (v : Nat)) rfl (by kernel_rfl) (by kernel_rfl) (by kernel_rfl) (fun _ _ _ h => h) rfl rfl ⟨hB, h3⟩ (fun w' h' => exec_load_one 5 _ rfl we.heap.size (36 + y * 4 + j) rfl (.int .u8 (v : Nat)) _ Try.underlying5 rfl (cellP h'.2 (by rw [Hq108.out]; omega) Hv.out)) ?_
                go_frame
                refine y_yield 14 (some 58) (.int .i64 (v : Int)) rfl (by kernel_rfl) (by kernel_rfl) (by kernel_rfl) (fun _ _ _ h => h) rfl rfl ⟨hB, h3⟩ (fun w' h' => exec_conv _ rfl v rfl hv) ?_
                go_frame
                refine y_yield 15 (some 59) (.int .i64 (P1 : Int)) rfl (by kernel_rfl) (by kernel_rfl) (by kernel_rfl) (fun _ _ _ h => h) rfl rfl ⟨hB, h3⟩ (fun w' h' => exec_mul _ _ _ _ rfl (u : Int) (v : Int) (P1 : Int) rfl rfl HM1.out) ?_
                go_frame
                refine y_yield 16 (some 60) (.int .i64 z) rfl (by kernel_rfl) (by kernel_rfl) (by kernel_rfl) (fun _ _ _ h => h) rfl rfl ⟨hB, h3⟩ (fun w' h' => exec_move _ rfl (.int .i64 z) rfl) ?_
                go_frame
                refine y_yield 17 (some 61) (.int .i64 (((h : Int) - (i : Int)) - (j : Int))) rfl (by kernel_rfl) (by kernel_rfl) (by kernel_rfl) (fun _ _ _ h => h) rfl rfl ⟨hB, h3⟩ (fun w' h' => exec_move _ rfl (.int .i64 (((h : Int) - (i : Int)) - (j : Int))) rfl) ?_
                go_frame
                refine y_yield 18 (some 62) (.pointer (some ⟨we.heap.size, 72, none⟩)) rfl (by kernel_rfl) (by kernel_rfl) (by kernel_rfl) (fun _ _ _ h => h) rfl rfl ⟨hB, h3⟩ (fun w' h' => exec_fieldAddr 52 _ 2 rfl _ (by kernel_rfl)) ?_
                go_frame
                refine y_yield 19 (some 63) (.pointer (some ⟨we.heap.size, 72 + z * 4, none⟩)) rfl (by kernel_rfl) (by kernel_rfl) (by kernel_rfl) (fun _ _ _ h => h) rfl rfl ⟨hB, h3⟩ (fun w' h' => exec_index_arr 50 48 _ _ rfl we.heap.size 72 9 z 4 rfl rfl Try.underlying50 (by kernel_rfl) hz) ?_
                go_frame
                refine y_yield 20 (some 64) (.pointer (some ⟨we.heap.size, 72 + z * 4 + (h - (i + j)), none⟩)) rfl (by kernel_rfl) (by kernel_rfl) (by kernel_rfl) (fun _ _ _ h => h) rfl rfl ⟨hB, h3⟩ (fun w' h' => exec_index_arr0z 48 5 _ _ rfl we.heap.size (72 + z * 4) 4 (h - (i + j)) (((h : Int) - (i : Int)) - (j : Int)) rfl rfl (by omega) Try.underlying48 (by kernel_rfl) (by omega)) ?_
                go_frame
                refine y_yield 21 (some 65) (.int .u8 (r : Nat)) rfl (by kernel_rfl) (by kernel_rfl) (by kernel_rfl) (fun _ _ _ h => h) rfl rfl ⟨hB, h3⟩ (fun w' h' => exec_load_one 5 _ rfl we.heap.size (72 + z * 4 + (h - (i + j))) rfl (.int .u8 (r : Nat)) _ Try.underlying5 rfl (cellP h'.2 (by rw [Hq108.out]; omega) Hr.out)) ?_
                go_frame
                refine y_yield 22 (some 66) (.int .i64 (r : Int)) rfl (by kernel_rfl) (by kernel_rfl) (by kernel_rfl) (fun _ _ _ h => h) rfl rfl ⟨hB, h3⟩ (fun w' h' => exec_conv _ rfl r rfl hr) ?_
                go_frame
                refine y_yield 23 (some 67) (.int .i64 (P2 : Int)) rfl (by kernel_rfl) (by kernel_rfl) (by kernel_rfl) (fun _ _ _ h => h) rfl rfl ⟨hB, h3⟩ (fun w' h' => exec_mul _ _ _ _ rfl (P1 : Int) (r : Int) (P2 : Int) rfl rfl HM2.out) ?_
                go_frame
                refine y_yield 24 (some 68) (.int .i64 (S4 : Int)) rfl (by kernel_rfl) (by kernel_rfl) (by kernel_rfl) (fun _ _ _ h => h) rfl rfl ⟨hB, h3⟩ (fun w' h' => exec_add _ _ _ _ rfl (S : Int) (P2 : Int) (S4 : Int) rfl rfl HM3.out) ?_
                go_frame
                refine y_oper 25 (by kernel_rfl) rfl rfl (fun K' hK' => ?_)
                refine wp_exec (some 11) rfl (.int .i64 (S4 : Int)) (exec_assign _ rfl (.int .i64 (S4 : Int)) rfl) ?_
                refine hK' _ _ ⟨hB, h3⟩ (fun _ => trivial) ?_
                clear hK' K'
                go_frame
                refine y_done (by kernel_rfl) ?_ _
                go_upto_region 11 with (fail)
                refine wp_region_lit ?_
                refine ls_ex (some 35) (.int .i64 j) rfl rfl (exec_move _ rfl (.int .i64 j) rfl) ?_
                go_frame
                refine ls_ex (some 36) (.int .i64 (j + 1)) rfl rfl (exec_add _ _ _ _ rfl j 1 (j + 1) rfl rfl (IntWalk.i64_in _ (by omega))) ?_
                go_frame
                refine ls_ex (some 15) (.int .i64 (j + 1)) rfl rfl (exec_assign _ rfl (.int .i64 (j + 1)) rfl) ?_
                go_frame
                refine wpList_nil ?_
                go_wp2_with fail
                go_roundw
                case rel => exact ⟨j + 1, S4, by omega, by go_num, rfl, HS4.out, hB, h0, h3⟩
                case measure => simp [intOf]; omega
              · have HS := Lib.hid hS
                clear hS
                have HT : Hid (S = sumN (exS (exL h (ts.take a)) h ts[a] i (j + 1)) x y z) := Lib.hid (by rw [HS.out, exS_skip (fun hc => by omega)])
                have HBt : Hid ((decide (0 ≤ ((h : Int) - (i : Int)) - (j : Int)) && decide (((h : Int) - (i : Int)) - (j : Int) ≤ 3)) = false) := Lib.hid (by rw [Bool.eq_false_iff]; simp only [ne_eq, Bool.and_eq_true, decide_eq_true_eq]; omega)
                go_upto_region 10 with (fail)
                refine wp_region_lit ?_
                refine ls_ex (some 33) (.int .i64 j) rfl rfl (exec_move _ rfl (.int .i64 j) rfl) ?_
                go_frame
                refine ls_ex (some 34) (.bool true) rfl rfl (exec_lss _ _ _ _ rfl j 4 rfl rfl true (decide_eq_true (by omega))) ?_
                go_frame
                refine wpList_nil ?_
                go_upto_region 12 with (fail)
                refine wp_region_lit ?_
                refine ls_ex (some 37) (.int .i64 h) rfl rfl (exec_move _ rfl (.int .i64 h) rfl) ?_
                go_frame
                refine ls_ex (some 38) (.int .i64 i) rfl rfl (exec_move _ rfl (.int .i64 i) rfl) ?_
                go_frame
                refine ls_ex (some 39) (.int .i64 ((h : Int) - (i : Int))) rfl rfl (exec_sub _ _ _ _ rfl (h : Int) (i : Int) ((h : Int) - (i : Int)) rfl rfl (IntWalk.i64_in _ (by omega))) ?_
                go_frame
                refine ls_ex (some 40) (.int .i64 j) rfl rfl (exec_move _ rfl (.int .i64 j) rfl) ?_
                go_frame
                refine ls_ex (some 41) (.int .i64 (((h : Int) - (i : Int)) - (j : Int))) rfl rfl (exec_sub _ _ _ _ rfl ((h : Int) - (i : Int)) (j : Int) (((h : Int) - (i : Int)) - (j : Int)) rfl rfl (IntWalk.i64_in _ (by omega))) ?_
                go_frame
                refine ls_ex (some 16) (.int .i64 (((h : Int) - (i : Int)) - (j : Int))) rfl rfl (exec_assign _ rfl (.int .i64 (((h : Int) - (i : Int)) - (j : Int))) rfl) ?_
                go_frame
                refine wpList_nil ?_
                go_upto_region 13 with (fail)
                refine wp_region_lit ?_
                refine ls_ex (some 42) (.int .i64 (((h : Int) - (i : Int)) - (j : Int))) rfl rfl (exec_move _ rfl (.int .i64 (((h : Int) - (i : Int)) - (j : Int))) rfl) ?_
                go_frame
                refine ls_op rfl (fun K' hK' => ?_)
                have lz22 := hB.size
                have lz23 := h0.lt
                have lz24 := h3.lt
                refine wp_call3 (some 43) rfl 24 _ _ _ _ rfl (fun args w => by kernel_rfl) _ _ _ rfl rfl rfl _ (l01In_c (((h : Int) - (i : Int)) - (j : Int)) 0 3 _) (fun e Wz20 h => ?_)
                obtain ⟨rfl, rfl⟩ := h
                rw [HBt.out]
                refine ⟨_, rfl, ?_⟩
                refine hK' _ _ ?_
                clear hK' K'
                go_frame
                refine wpList_nil ?_
                go_upto_region 11 with (fail)
                refine wp_region_lit ?_
                refine ls_ex (some 35) (.int .i64 j) rfl rfl (exec_move _ rfl (.int .i64 j) rfl) ?_
                go_frame
                refine ls_ex (some 36) (.int .i64 (j + 1)) rfl rfl (exec_add _ _ _ _ rfl j 1 (j + 1) rfl rfl (IntWalk.i64_in _ (by omega))) ?_
                go_frame
                refine ls_ex (some 15) (.int .i64 (j + 1)) rfl rfl (exec_assign _ rfl (.int .i64 (j + 1)) rfl) ?_
                go_frame
                refine wpList_nil ?_
                go_wp2_with fail
                go_roundw
                case rel => exact ⟨j + 1, S, by omega, by go_num, rfl, HT.out, hB, h0, h3⟩
                case measure => simp [intOf]; omega
            · have HT : Hid (S = sumN (exS (exL h (ts.take a)) h ts[a] (i + 1) 0) x y z) := Lib.hid (by rw [hS, show j = 4 by omega, exS_row])
              clear hS
              go_upto_region 10 with (fail)
              refine wp_region_lit ?_
              refine ls_ex (some 33) (.int .i64 j) rfl rfl (exec_move _ rfl (.int .i64 j) rfl) ?_
              go_frame
              refine ls_ex (some 34) (.bool false) rfl rfl (exec_lss _ _ _ _ rfl j 4 rfl rfl false (decide_eq_false (by omega))) ?_
              go_frame
              refine wpList_nil ?_
              go_upto_region 8 with (fail)
              refine wp_region_lit ?_
              refine ls_ex (some 31) (.int .i64 i) rfl rfl (exec_move _ rfl (.int .i64 i) rfl) ?_
              go_frame
              refine ls_ex (some 32) (.int .i64 (i + 1)) rfl rfl (exec_add _ _ _ _ rfl i 1 (i + 1) rfl rfl (IntWalk.i64_in _ (by omega))) ?_
              go_frame
              refine ls_ex (some 14) (.int .i64 (i + 1)) rfl rfl (exec_assign _ rfl (.int .i64 (i + 1)) rfl) ?_
              go_frame
              refine wpList_nil ?_
              go_wp2_with fail
              go_roundw
              case rel => exact ⟨i + 1, S, by omega, by go_num, rfl, HT.out, hB, h0, h3⟩
              case measure => simp [intOf]; omega
        · have HT : Hid (S = sumN (exL h (ts.take (a + 1))) x y z) := Lib.hid (by rw [hS, show i = 4 by omega, exS_end, exL_step hlt])
          clear hS
          go_upto_region 7 with (fail)
          refine wp_region_lit ?_
          refine ls_ex (some 29) (.int .i64 i) rfl rfl (exec_move _ rfl (.int .i64 i) rfl) ?_
          go_frame
          refine ls_ex (some 30) (.bool false) rfl rfl (exec_lss _ _ _ _ rfl i 4 rfl rfl false (decide_eq_false (by omega))) ?_
          go_frame
          refine wpList_nil ?_
          go_upto_region 4 with (fail)
          refine wp_region_lit ?_
          refine ls_ex (some 22) (.int .i64 a) rfl rfl (exec_move _ rfl (.int .i64 a) rfl) ?_
          go_frame
          refine ls_ex (some 23) (.int .i64 (a + 1)) rfl rfl (exec_add _ _ _ _ rfl a 1 (a + 1) rfl rfl (IntWalk.i64_in _ (by omega))) ?_
          go_frame
          refine ls_ex (some 12) (.int .i64 (a + 1)) rfl rfl (exec_assign _ rfl (.int .i64 (a + 1)) rfl) ?_
          go_frame
          refine wpList_nil ?_
          go_wp2_with fail
          go_roundw
          case rel => exact ⟨a + 1, S, by omega, by go_num, rfl, HT.out, hB, h0⟩
          case measure => simp [intOf]; omega
    · have HN : Hid ((S : Int).tmod p = ((sumN (exL h ts) x y z % p.toNat : Nat) : Int)) := Lib.hid (by
        rw [show a = ts.length by omega, List.take_length] at hS
        rw [← hS, Int.tmod_eq_emod_of_nonneg (by omega), Int.natCast_emod, Int.toNat_of_nonneg (by omega)])
      clear hS
      go_upto_region 3 with (fail)
      refine wp_region_lit ?_
      refine ls_ex (some 17) (.int .i64 a) rfl rfl (exec_move _ rfl (.int .i64 a) rfl) ?_
      go_frame
      refine ls_ex (some 18) (.pointer (some ⟨w.heap.size, 4, none⟩)) rfl rfl (exec_fieldAddr 33 _ 4 rfl _ (by kernel_rfl)) ?_
      go_frame
      refine ls_ex (some 19) (.slice A ts.length c) rfl rfl (exec_load_one 31 _ rfl w.heap.size 4 rfl (.slice A ts.length c) _ Try.underlying31 rfl (h0.at_ 4)) ?_
      go_frame
      refine ls_ex (some 20) (.int .i64 ts.length) rfl rfl (exec_len _ 31 52 rfl A ts.length c rfl Try.underlying31) ?_
      go_frame
      refine ls_ex (some 21) (.bool false) rfl rfl (exec_lss _ _ _ _ rfl a ts.length rfl rfl false (decide_eq_false (by omega))) ?_
      go_frame
      refine wpList_nil ?_
      go_upto_region 15 with (fail)
      refine wp_region_lit ?_
      refine ls_ex (some 69) (.int .i64 (S : Int)) rfl rfl (exec_move _ rfl (.int .i64 (S : Int)) rfl) ?_
      go_frame
      refine ls_ex (some 70) (.pointer (some ⟨w.heap.size, 0, none⟩)) rfl rfl (exec_fieldAddr 33 _ 0 rfl _ (by kernel_rfl)) ?_
      go_frame
      refine ls_ex (some 71) (.int .i64 p) rfl rfl (exec_load_one 2 _ rfl w.heap.size 0 rfl (.int .i64 p) _ Try.underlying2 rfl (h0.at_ 0)) ?_
      go_frame
      refine ls_ex (some 72) (.int .i64 ((sumN (exL h ts) x y z % p.toNat : Nat) : Int)) rfl rfl (exec_rem _ _ _ _ rfl (S : Int) p ((sumN (exL h ts) x y z % p.toNat : Nat) : Int) rfl rfl (by omega) HN.out) ?_
      go_frame
      refine ls_ex (some 10) (.int .i64 ((sumN (exL h ts) x y z % p.toNat : Nat) : Int)) rfl rfl (exec_assign _ rfl (.int .i64 ((sumN (exL h ts) x y z % p.toNat : Nat) : Int)) rfl) ?_
      go_frame
      refine wpList_nil ?_
      go_wp2_with fail
      go_ret
      exact ⟨rfl, hB⟩
set_option maxHeartbeats 4000000 in
theorem specCf_a (p n m k : Int) (A : Option Addr) (c : Nat) (ts : List (List Nat)) (x y z h : Int) (w : World) (hR : RdT w A ts) (hlen : ts.length ≤ 1048576) (hs : borderB p n m k ts = false) :
    Calls Try.prog 20 #[.agg #[.int .i64 p, .int .i64 n, .int .i64 m, .int .i64 k, .slice A ts.length c], .int .i64 x, .int .i64 y, .int .i64 z, .int .i64 h] w (fun e w' => e = .returned (.tuple #[.int .i64 (ifZ (cfCode p n m k ts x y z h) (cfI p ts x y z h)), .int .i64 (cfCode p n m k ts x y z h)]) ∧ Below w.heap.size w w') := by
  have hB := Below.refl w.heap.size w
  have HC : Hid (cfCode p n m k ts x y z h = 1) := Lib.hid (by unfold cfCode; rw [hs]; rfl)
  have Hs := Lib.hid hs
  clear hs
  go_enter Try.func20, Try.ntmps20
  go_upto_region 0 with (fail)
  refine wp_region_lit ?_
  refine ls_op rfl (fun K' hK' => ?_)
  have lz1 := hB.size
  refine wp_new (some 5) rfl (exec_box 33 _ rfl (#[.int .i64 p, .int .i64 n, .int .i64 m, .int .i64 k, .slice A ts.length c]) rfl) (fun Wz2 nnz3 => ?_)
  have bz4 := nnz3.below (Below.refl _ _) (Nat.le_refl _)
  replace hB := below_after hB bz4
  have hz5 : At Wz2 w.heap.size (.cells #[.int .i64 p, .int .i64 n, .int .i64 m, .int .i64 k, .slice A ts.length c] 33 (0, 0)) := nnz3.at_
  refine hK' _ _ ?_
  clear hK' K' nnz3 bz4
  go_frame
  refine ls_ex (some 10) (.int .i64 0) rfl rfl (exec_assign _ rfl (.int .i64 0) rfl) ?_
  go_frame
  refine ls_ex (some 11) (.int .i64 0) rfl rfl (exec_assign _ rfl (.int .i64 0) rfl) ?_
  go_frame
  refine wpList_nil ?_
  go_upto_region 1 with (fail)
  refine wp_region_lit ?_
  refine ls_ex (some 15) (.agg #[.int .i64 p, .int .i64 n, .int .i64 m, .int .i64 k, .slice A ts.length c]) rfl rfl (exec_load_all 33 _ rfl w.heap.size rfl _ _ _ hz5 Try.underlying33 rfl 5 (by kernel_rfl) rfl) ?_
  go_frame
  refine ls_op rfl (fun K' hK' => ?_)
  have lz8 := hB.size
  have lz9 := hz5.lt
  refine wp_call1 (some 16) rfl 23 _ _ rfl (fun args w => by kernel_rfl) _ rfl _ (l08Is_c p n m k A c ts _ (hR.keep hB) hlen) (fun e Wz6 h => ?_)
  obtain ⟨rfl, bz7⟩ := h
  replace hB := below_after hB bz7
  replace hz5 := hz5.after bz7
  rw [Hs.out]
  clear bz7
  refine ⟨_, rfl, ?_⟩
  refine hK' _ _ ?_
  clear hK' K'
  go_frame
  refine ls_ex (some 17) (.bool true) rfl rfl (exec_not _ _ rfl false rfl) ?_
  go_frame
  refine wpList_nil ?_
  go_upto_region 2 with (fail)
  refine wp_region_lit ?_
  refine ls_ex (some 10) (.int .i64 0) rfl rfl (exec_assign _ rfl (.int .i64 0) rfl) ?_
  go_frame
  refine ls_ex (some 11) (.int .i64 1) rfl rfl (exec_assign _ rfl (.int .i64 1) rfl) ?_
  go_frame
  refine wpList_nil ?_
  go_wp2_with fail
  go_ret2
  exact ⟨by rw [HC.out]; rfl, hB⟩
set_option maxHeartbeats 4000000 in
theorem implCf_a (p n m k : Int) (A : Option Addr) (c : Nat) (ts : List (List Nat)) (x y z h : Int) (w : World) (hR : RdT w A ts) (hlen : ts.length ≤ 1048576) (hs : borderB p n m k ts = false) :
    Calls Try.prog 21 #[.agg #[.int .i64 p, .int .i64 n, .int .i64 m, .int .i64 k, .slice A ts.length c], .int .i64 x, .int .i64 y, .int .i64 z, .int .i64 h] w (fun e w' => e = .returned (.tuple #[.int .i64 (ifZ (cfCode p n m k ts x y z h) (cfI p ts x y z h)), .int .i64 (cfCode p n m k ts x y z h)]) ∧ Below w.heap.size w w') := by
  have hB := Below.refl w.heap.size w
  have HC : Hid (cfCode p n m k ts x y z h = 1) := Lib.hid (by unfold cfCode; rw [hs]; rfl)
  have Hs := Lib.hid hs
  clear hs
  go_enter Try.func21, Try.ntmps21
  go_upto_region 0 with (fail)
  refine wp_region_lit ?_
  refine ls_op rfl (fun K' hK' => ?_)
  have lz1 := hB.size
  refine wp_new (some 5) rfl (exec_box 33 _ rfl (#[.int .i64 p, .int .i64 n, .int .i64 m, .int .i64 k, .slice A ts.length c]) rfl) (fun Wz2 nnz3 => ?_)
  have bz4 := nnz3.below (Below.refl _ _) (Nat.le_refl _)
  replace hB := below_after hB bz4
  have hz5 : At Wz2 w.heap.size (.cells #[.int .i64 p, .int .i64 n, .int .i64 m, .int .i64 k, .slice A ts.length c] 33 (0, 0)) := nnz3.at_
  refine hK' _ _ ?_
  clear hK' K' nnz3 bz4
  go_frame
  refine ls_ex (some 10) (.int .i64 0) rfl rfl (exec_assign _ rfl (.int .i64 0) rfl) ?_
  go_frame
  refine ls_ex (some 11) (.int .i64 0) rfl rfl (exec_assign _ rfl (.int .i64 0) rfl) ?_
  go_frame
  refine wpList_nil ?_
  go_upto_region 1 with (fail)
  refine wp_region_lit ?_
  refine ls_ex (some 12) (.agg #[.int .i64 p, .int .i64 n, .int .i64 m, .int .i64 k, .slice A ts.length c]) rfl rfl (exec_load_all 33 _ rfl w.heap.size rfl _ _ _ hz5 Try.underlying33 rfl 5 (by kernel_rfl) rfl) ?_
  go_frame
  refine ls_op rfl (fun K' hK' => ?_)
  have lz8 := hB.size
  have lz9 := hz5.lt
  refine wp_call1 (some 13) rfl 29 _ _ rfl (fun args w => by kernel_rfl) _ rfl _ (implIsBorder_c p n m k A c ts _ (hR.keep hB) hlen) (fun e Wz6 h => ?_)
  obtain ⟨rfl, bz7⟩ := h
  replace hB := below_after hB bz7
  replace hz5 := hz5.after bz7
  rw [Hs.out]
  clear bz7
  refine ⟨_, rfl, ?_⟩
  refine hK' _ _ ?_
  clear hK' K'
  go_frame
  refine ls_ex (some 14) (.bool true) rfl rfl (exec_not _ _ rfl false rfl) ?_
  go_frame
  refine wpList_nil ?_
  go_upto_region 2 with (fail)
  refine wp_region_lit ?_
  refine ls_ex (some 10) (.int .i64 0) rfl rfl (exec_assign _ rfl (.int .i64 0) rfl) ?_
  go_frame
  refine ls_ex (some 11) (.int .i64 1) rfl rfl (exec_assign _ rfl (.int .i64 1) rfl) ?_
  go_frame
  refine wpList_nil ?_
  go_wp2_with fail
  go_ret2
  exact ⟨by rw [HC.out]; rfl, hB⟩
set_option maxHeartbeats 4000000 in
theorem specCf_x (p n m k : Int) (A : Option Addr) (c : Nat) (ts : List (List Nat)) (x y z h : Int) (w : World) (hR : RdT w A ts) (hlen : ts.length ≤ 1048576) (hs : borderB p n m k ts = true) (hx : inB x (n * m) = false) :
    Calls Try.prog 20 #[.agg #[.int .i64 p, .int .i64 n, .int .i64 m, .int .i64 k, .slice A ts.length c], .int .i64 x, .int .i64 y, .int .i64 z, .int .i64 h] w (fun e w' => e = .returned (.tuple #[.int .i64 (ifZ (cfCode p n m k ts x y z h) (cfI p ts x y z h)), .int .i64 (cfCode p n m k ts x y z h)]) ∧ Below w.heap.size w w') := by
  have hB := Below.refl w.heap.size w
  have hsz := (borderB_all hs).1
  have hl30 := (borderB_all hs).2.1
  obtain ⟨hb1, hb2, hb3⟩ := sizesB_mul hsz
  have Hpr := Lib.hid (sizesB_parts hsz)
  have hp5 := primeB_b2 Hpr.out.1
  have HC : Hid (cfCode p n m k ts x y z h = 2) := Lib.hid (by unfold cfCode cfOk; rw [hs, hx]; simp)
  obtain ⟨N1, hN1⟩ : ∃ N, n * m = N := ⟨_, rfl⟩
  obtain ⟨N2, hN2⟩ : ∃ N, m * k = N := ⟨_, rfl⟩
  obtain ⟨N3, hN3⟩ : ∃ N, n * k = N := ⟨_, rfl⟩
  have HN1 := Lib.hid hN1
  have HN2 := Lib.hid hN2
  have HN3 := Lib.hid hN3
  rw [hN1] at hb1
  rw [hN2] at hb2
  rw [hN3] at hb3
  have Hs := Lib.hid hs
  rw [hN1] at hx
  have Hx := Lib.hid hx
  clear hx
  clear hs hsz hN1 hN2 hN3
  
  go_enter Try.func20, Try.ntmps20
  go_upto_region 0 with (fail)
  refine wp_region_lit ?_
  refine ls_op rfl (fun K' hK' => ?_)
  have lz1 := hB.size
  refine wp_new (some 5) rfl (exec_box 33 _ rfl (#[.int .i64 p, .int .i64 n, .int .i64 m, .int .i64 k, .slice A ts.length c]) rfl) (fun Wz2 nnz3 => ?_)
  have bz4 := nnz3.below (Below.refl _ _) (Nat.le_refl _)
  replace hB := below_after hB bz4
  have hz5 : At Wz2 w.heap.size (.cells #[.int .i64 p, .int .i64 n, .int .i64 m, .int .i64 k, .slice A ts.length c] 33 (0, 0)) := nnz3.at_
  refine hK' _ _ ?_
  clear hK' K' nnz3 bz4
  go_frame
  refine ls_ex (some 10) (.int .i64 0) rfl rfl (exec_assign _ rfl (.int .i64 0) rfl) ?_
  go_frame
  refine ls_ex (some 11) (.int .i64 0) rfl rfl (exec_assign _ rfl (.int .i64 0) rfl) ?_
  go_frame
  refine wpList_nil ?_
  go_upto_region 1 with (fail)
  refine wp_region_lit ?_
  refine ls_ex (some 15) (.agg #[.int .i64 p, .int .i64 n, .int .i64 m, .int .i64 k, .slice A ts.length c]) rfl rfl (exec_load_all 33 _ rfl w.heap.size rfl _ _ _ hz5 Try.underlying33 rfl 5 (by kernel_rfl) rfl) ?_
  go_frame
  refine ls_op rfl (fun K' hK' => ?_)
  have lz8 := hB.size
  have lz9 := hz5.lt
  refine wp_call1 (some 16) rfl 23 _ _ rfl (fun args w => by kernel_rfl) _ rfl _ (l08Is_c p n m k A c ts _ (hR.keep hB) hlen) (fun e Wz6 h => ?_)
  obtain ⟨rfl, bz7⟩ := h
  replace hB := below_after hB bz7
  replace hz5 := hz5.after bz7
  rw [Hs.out]
  clear bz7
  refine ⟨_, rfl, ?_⟩
  refine hK' _ _ ?_
  clear hK' K'
  go_frame
  refine ls_ex (some 17) (.bool false) rfl rfl (exec_not _ _ rfl true rfl) ?_
  go_frame
  refine wpList_nil ?_
  go_upto_region 3 with (fail)
  refine wp_region_lit ?_
  refine ls_ex (some 19) (.agg #[.int .i64 p, .int .i64 n, .int .i64 m, .int .i64 k, .slice A ts.length c]) rfl rfl (exec_load_all 33 _ rfl w.heap.size rfl _ _ _ hz5 Try.underlying33 rfl 5 (by kernel_rfl) rfl) ?_
  go_frame
  refine ls_op rfl (fun K' hK' => ?_)
  have lz12 := hB.size
  have lz13 := hz5.lt
  have lo9 := hB.size
  refine wp_call1 (some 20) rfl 25 _ _ rfl (fun args w => by kernel_rfl) _ rfl _ (l08Like_c p n m k A ts.length c _) (fun e Wz10 h => ?_)
  obtain ⟨v7, rfl, ho, bz11⟩ := h
  replace hB := below_after hB bz11
  replace hz5 := hz5.after bz11
  obtain ⟨A7, c7, rfl⟩ := Own.rdN2 ho (n := 0) rfl
  clear bz11
  refine ⟨_, rfl, ?_⟩
  refine hK' _ _ ?_
  clear hK' K'
  go_frame
  refine ls_op rfl (fun K' hK' => ?_)
  have lz16 := hB.size
  have lz17 := hz5.lt
  refine wp_call1 (some 21) rfl 44 _ _ rfl (fun args w => by kernel_rfl) _ rfl _ (l01Lengths_c p n m k _ _ Hpr.out.2.1 Hpr.out.2.2.1 Hpr.out.2.2.2) (fun e Wz14 h => ?_)
  obtain ⟨rfl, bz15⟩ := h
  replace hB := below_after hB bz15
  replace hz5 := hz5.after bz15
  replace ho := ho.below bz15
  rw [HN1.out, HN2.out, HN3.out]
  clear bz15
  refine ⟨_, rfl, ?_⟩
  refine hK' _ _ ?_
  clear hK' K'
  go_frame
  refine ls_ex (some 18) (.tuple #[.int .i64 N1, .int .i64 N2, .int .i64 N3]) rfl rfl (exec_move _ rfl (.tuple #[.int .i64 N1, .int .i64 N2, .int .i64 N3]) rfl) ?_
  go_frame
  refine ls_ex (some 22) (.int .i64 N1) rfl rfl (exec_extract _ 0 rfl #[.int .i64 N1, .int .i64 N2, .int .i64 N3] (by rfl) _ rfl) ?_
  go_frame
  refine ls_ex (some 23) (.int .i64 N2) rfl rfl (exec_extract _ 1 rfl #[.int .i64 N1, .int .i64 N2, .int .i64 N3] (by rfl) _ rfl) ?_
  go_frame
  refine ls_ex (some 24) (.int .i64 N3) rfl rfl (exec_extract _ 2 rfl #[.int .i64 N1, .int .i64 N2, .int .i64 N3] (by rfl) _ rfl) ?_
  go_frame
  refine ls_ex (some 12) (.int .i64 N1) rfl rfl (exec_assign _ rfl (.int .i64 N1) rfl) ?_
  go_frame
  refine ls_ex (some 13) (.int .i64 N2) rfl rfl (exec_assign _ rfl (.int .i64 N2) rfl) ?_
  go_frame
  refine ls_ex (some 14) (.int .i64 N3) rfl rfl (exec_assign _ rfl (.int .i64 N3) rfl) ?_
  go_frame
  refine wpList_nil ?_
  go_upto_region 4 with (fail)
  refine wp_region_lit ?_
  refine ls_ex (some 25) (.int .i64 x) rfl rfl (exec_move _ rfl (.int .i64 x) rfl) ?_
  go_frame
  refine ls_ex (some 26) (.int .i64 N1) rfl rfl (exec_move _ rfl (.int .i64 N1) rfl) ?_
  go_frame
  refine ls_ex (some 27) (.int .i64 (N1 - 1)) rfl rfl (exec_sub _ _ _ _ rfl N1 1 (N1 - 1) rfl rfl (IntWalk.i64_in _ (by omega))) ?_
  go_frame
  refine ls_op rfl (fun K' hK' => ?_)
  have lz20 := hB.size
  have lz21 := hz5.lt
  refine wp_call3 (some 28) rfl 24 _ _ _ _ rfl (fun args w => by kernel_rfl) _ _ _ rfl rfl rfl _ (l01In_ix x N1 _) (fun e Wz18 h => ?_)
  obtain ⟨rfl, rfl⟩ := h
  rw [Hx.out]
  refine ⟨_, rfl, ?_⟩
  refine hK' _ _ ?_
  clear hK' K'
  go_frame
  refine ls_ex (some 29) (.bool true) rfl rfl (exec_not _ _ rfl false rfl) ?_
  go_frame
  refine ls_ex (some 30) (.bool true) rfl rfl (exec_move _ rfl (.bool true) rfl) ?_
  go_frame
  refine ls_skip_g (some 31) rfl rfl ?_
  go_frame
  refine ls_skip_g (some 32) rfl rfl ?_
  go_frame
  refine ls_skip_g (some 33) rfl rfl ?_
  go_frame
  refine ls_skip_g (some 34) rfl rfl ?_
  go_frame
  refine ls_skip_g (some 35) rfl rfl ?_
  go_frame
  refine ls_ex (some 36) (.bool true) rfl rfl (exec_pick _ _ _ rfl true rfl (.bool true) rfl) ?_
  go_frame
  refine ls_ex (some 37) (.bool true) rfl rfl (exec_move _ rfl (.bool true) rfl) ?_
  go_frame
  refine ls_skip_g (some 38) rfl rfl ?_
  go_frame
  refine ls_skip_g (some 39) rfl rfl ?_
  go_frame
  refine ls_skip_g (some 40) rfl rfl ?_
  go_frame
  refine ls_skip_g (some 41) rfl rfl ?_
  go_frame
  refine ls_skip_g (some 42) rfl rfl ?_
  go_frame
  refine ls_ex (some 43) (.bool true) rfl rfl (exec_pick _ _ _ rfl true rfl (.bool true) rfl) ?_
  go_frame
  refine ls_ex (some 44) (.bool true) rfl rfl (exec_move _ rfl (.bool true) rfl) ?_
  go_frame
  refine ls_skip_g (some 45) rfl rfl ?_
  go_frame
  refine ls_skip_g (some 46) rfl rfl ?_
  go_frame
  refine ls_skip_g (some 47) rfl rfl ?_
  go_frame
  refine ls_ex (some 48) (.bool true) rfl rfl (exec_pick _ _ _ rfl true rfl (.bool true) rfl) ?_
  go_frame
  refine wpList_nil ?_
  go_upto_region 5 with (fail)
  refine wp_region_lit ?_
  refine ls_ex (some 10) (.int .i64 0) rfl rfl (exec_assign _ rfl (.int .i64 0) rfl) ?_
  go_frame
  refine ls_ex (some 11) (.int .i64 2) rfl rfl (exec_assign _ rfl (.int .i64 2) rfl) ?_
  go_frame
  refine wpList_nil ?_
  go_wp2_with fail
  go_ret2
  exact ⟨by rw [HC.out]; rfl, hB⟩
set_option maxHeartbeats 4000000 in
theorem specCf_y (p n m k : Int) (A : Option Addr) (c : Nat) (ts : List (List Nat)) (x y z h : Int) (w : World) (hR : RdT w A ts) (hlen : ts.length ≤ 1048576) (hs : borderB p n m k ts = true) (hx : inB x (n * m) = true) (hy : inB y (m * k) = false) :
    Calls Try.prog 20 #[.agg #[.int .i64 p, .int .i64 n, .int .i64 m, .int .i64 k, .slice A ts.length c], .int .i64 x, .int .i64 y, .int .i64 z, .int .i64 h] w (fun e w' => e = .returned (.tuple #[.int .i64 (ifZ (cfCode p n m k ts x y z h) (cfI p ts x y z h)), .int .i64 (cfCode p n m k ts x y z h)]) ∧ Below w.heap.size w w') := by
  have hB := Below.refl w.heap.size w
  have hsz := (borderB_all hs).1
  have hl30 := (borderB_all hs).2.1
  obtain ⟨hb1, hb2, hb3⟩ := sizesB_mul hsz
  have Hpr := Lib.hid (sizesB_parts hsz)
  have hp5 := primeB_b2 Hpr.out.1
  have HC : Hid (cfCode p n m k ts x y z h = 2) := Lib.hid (by unfold cfCode cfOk; rw [hs, hx, hy]; simp)
  obtain ⟨N1, hN1⟩ : ∃ N, n * m = N := ⟨_, rfl⟩
  obtain ⟨N2, hN2⟩ : ∃ N, m * k = N := ⟨_, rfl⟩
  obtain ⟨N3, hN3⟩ : ∃ N, n * k = N := ⟨_, rfl⟩
  have HN1 := Lib.hid hN1
  have HN2 := Lib.hid hN2
  have HN3 := Lib.hid hN3
  rw [hN1] at hb1
  rw [hN2] at hb2
  rw [hN3] at hb3
  have Hs := Lib.hid hs
  rw [hN1] at hx
  have Hx := Lib.hid hx
  clear hx
  rw [hN2] at hy
  have Hy := Lib.hid hy
  clear hy
  clear hs hsz hN1 hN2 hN3
  
  go_enter Try.func20, Try.ntmps20
  go_upto_region 0 with (fail)
  refine wp_region_lit ?_
  refine ls_op rfl (fun K' hK' => ?_)
  have lz1 := hB.size
  refine wp_new (some 5) rfl (exec_box 33 _ rfl (#[.int .i64 p, .int .i64 n, .int .i64 m, .int .i64 k, .slice A ts.length c]) rfl) (fun Wz2 nnz3 => ?_)
  have bz4 := nnz3.below (Below.refl _ _) (Nat.le_refl _)
  replace hB := below_after hB bz4
  have hz5 : At Wz2 w.heap.size (.cells #[.int .i64 p, .int .i64 n, .int .i64 m, .int .i64 k, .slice A ts.length c] 33 (0, 0)) := nnz3.at_
  refine hK' _ _ ?_
  clear hK' K' nnz3 bz4
  go_frame
  refine ls_ex (some 10) (.int .i64 0) rfl rfl (exec_assign _ rfl (.int .i64 0) rfl) ?_
  go_frame
  refine ls_ex (some 11) (.int .i64 0) rfl rfl (exec_assign _ rfl (.int .i64 0) rfl) ?_
  go_frame
  refine wpList_nil ?_
  go_upto_region 1 with (fail)
  refine wp_region_lit ?_
  refine ls_ex (some 15) (.agg #[.int .i64 p, .int .i64 n, .int .i64 m, .int .i64 k, .slice A ts.length c]) rfl rfl (exec_load_all 33 _ rfl w.heap.size rfl _ _ _ hz5 Try.underlying33 rfl 5 (by kernel_rfl) rfl) ?_
  go_frame
  refine ls_op rfl (fun K' hK' => ?_)
  have lz8 := hB.size
  have lz9 := hz5.lt
  refine wp_call1 (some 16) rfl 23 _ _ rfl (fun args w => by kernel_rfl) _ rfl _ (l08Is_c p n m k A c ts _ (hR.keep hB) hlen) (fun e Wz6 h => ?_)
  obtain ⟨rfl, bz7⟩ := h
  replace hB := below_after hB bz7
  replace hz5 := hz5.after bz7
  rw [Hs.out]
  clear bz7
  refine ⟨_, rfl, ?_⟩
  refine hK' _ _ ?_
  clear hK' K'
  go_frame
  refine ls_ex (some 17) (.bool false) rfl rfl (exec_not _ _ rfl true rfl) ?_
  go_frame
  refine wpList_nil ?_
  go_upto_region 3 with (fail)
  refine wp_region_lit ?_
  refine ls_ex (some 19) (.agg #[.int .i64 p, .int .i64 n, .int .i64 m, .int .i64 k, .slice A ts.length c]) rfl rfl (exec_load_all 33 _ rfl w.heap.size rfl _ _ _ hz5 Try.underlying33 rfl 5 (by kernel_rfl) rfl) ?_
  go_frame
  refine ls_op rfl (fun K' hK' => ?_)
  have lz12 := hB.size
  have lz13 := hz5.lt
  have lo9 := hB.size
  refine wp_call1 (some 20) rfl 25 _ _ rfl (fun args w => by kernel_rfl) _ rfl _ (l08Like_c p n m k A ts.length c _) (fun e Wz10 h => ?_)
  obtain ⟨v7, rfl, ho, bz11⟩ := h
  replace hB := below_after hB bz11
  replace hz5 := hz5.after bz11
  obtain ⟨A7, c7, rfl⟩ := Own.rdN2 ho (n := 0) rfl
  clear bz11
  refine ⟨_, rfl, ?_⟩
  refine hK' _ _ ?_
  clear hK' K'
  go_frame
  refine ls_op rfl (fun K' hK' => ?_)
  have lz16 := hB.size
  have lz17 := hz5.lt
  refine wp_call1 (some 21) rfl 44 _ _ rfl (fun args w => by kernel_rfl) _ rfl _ (l01Lengths_c p n m k _ _ Hpr.out.2.1 Hpr.out.2.2.1 Hpr.out.2.2.2) (fun e Wz14 h => ?_)
  obtain ⟨rfl, bz15⟩ := h
  replace hB := below_after hB bz15
  replace hz5 := hz5.after bz15
  replace ho := ho.below bz15
  rw [HN1.out, HN2.out, HN3.out]
  clear bz15
  refine ⟨_, rfl, ?_⟩
  refine hK' _ _ ?_
  clear hK' K'
  go_frame
  refine ls_ex (some 18) (.tuple #[.int .i64 N1, .int .i64 N2, .int .i64 N3]) rfl rfl (exec_move _ rfl (.tuple #[.int .i64 N1, .int .i64 N2, .int .i64 N3]) rfl) ?_
  go_frame
  refine ls_ex (some 22) (.int .i64 N1) rfl rfl (exec_extract _ 0 rfl #[.int .i64 N1, .int .i64 N2, .int .i64 N3] (by rfl) _ rfl) ?_
  go_frame
  refine ls_ex (some 23) (.int .i64 N2) rfl rfl (exec_extract _ 1 rfl #[.int .i64 N1, .int .i64 N2, .int .i64 N3] (by rfl) _ rfl) ?_
  go_frame
  refine ls_ex (some 24) (.int .i64 N3) rfl rfl (exec_extract _ 2 rfl #[.int .i64 N1, .int .i64 N2, .int .i64 N3] (by rfl) _ rfl) ?_
  go_frame
  refine ls_ex (some 12) (.int .i64 N1) rfl rfl (exec_assign _ rfl (.int .i64 N1) rfl) ?_
  go_frame
  refine ls_ex (some 13) (.int .i64 N2) rfl rfl (exec_assign _ rfl (.int .i64 N2) rfl) ?_
  go_frame
  refine ls_ex (some 14) (.int .i64 N3) rfl rfl (exec_assign _ rfl (.int .i64 N3) rfl) ?_
  go_frame
  refine wpList_nil ?_
  go_upto_region 4 with (fail)
  refine wp_region_lit ?_
  refine ls_ex (some 25) (.int .i64 x) rfl rfl (exec_move _ rfl (.int .i64 x) rfl) ?_
  go_frame
  refine ls_ex (some 26) (.int .i64 N1) rfl rfl (exec_move _ rfl (.int .i64 N1) rfl) ?_
  go_frame
  refine ls_ex (some 27) (.int .i64 (N1 - 1)) rfl rfl (exec_sub _ _ _ _ rfl N1 1 (N1 - 1) rfl rfl (IntWalk.i64_in _ (by omega))) ?_
  go_frame
  refine ls_op rfl (fun K' hK' => ?_)
  have lz20 := hB.size
  have lz21 := hz5.lt
  refine wp_call3 (some 28) rfl 24 _ _ _ _ rfl (fun args w => by kernel_rfl) _ _ _ rfl rfl rfl _ (l01In_ix x N1 _) (fun e Wz18 h => ?_)
  obtain ⟨rfl, rfl⟩ := h
  rw [Hx.out]
  refine ⟨_, rfl, ?_⟩
  refine hK' _ _ ?_
  clear hK' K'
  go_frame
  refine ls_ex (some 29) (.bool false) rfl rfl (exec_not _ _ rfl true rfl) ?_
  go_frame
  refine ls_ex (some 30) (.bool false) rfl rfl (exec_move _ rfl (.bool false) rfl) ?_
  go_frame
  refine ls_ex_g (some 31) (.int .i64 y) rfl rfl (exec_move _ rfl (.int .i64 y) rfl) ?_
  go_frame
  refine ls_ex_g (some 32) (.int .i64 N2) rfl rfl (exec_move _ rfl (.int .i64 N2) rfl) ?_
  go_frame
  refine ls_ex_g (some 33) (.int .i64 (N2 - 1)) rfl rfl (exec_sub _ _ _ _ rfl N2 1 (N2 - 1) rfl rfl (IntWalk.i64_in _ (by omega))) ?_
  go_frame
  refine ls_op_g rfl (fun K' hK' => ?_)
  have lz24 := hB.size
  have lz25 := hz5.lt
  refine wp_call3 (some 34) rfl 24 _ _ _ _ rfl (fun args w => by kernel_rfl) _ _ _ rfl rfl rfl _ (l01In_ix y N2 _) (fun e Wz22 h => ?_)
  obtain ⟨rfl, rfl⟩ := h
  rw [Hy.out]
  refine ⟨_, rfl, ?_⟩
  refine hK' _ _ ?_
  clear hK' K'
  go_frame
  refine ls_ex_g (some 35) (.bool true) rfl rfl (exec_not _ _ rfl false rfl) ?_
  go_frame
  refine ls_ex (some 36) (.bool true) rfl rfl (exec_pick _ _ _ rfl false rfl (.bool true) rfl) ?_
  go_frame
  refine ls_ex (some 37) (.bool true) rfl rfl (exec_move _ rfl (.bool true) rfl) ?_
  go_frame
  refine ls_skip_g (some 38) rfl rfl ?_
  go_frame
  refine ls_skip_g (some 39) rfl rfl ?_
  go_frame
  refine ls_skip_g (some 40) rfl rfl ?_
  go_frame
  refine ls_skip_g (some 41) rfl rfl ?_
  go_frame
  refine ls_skip_g (some 42) rfl rfl ?_
  go_frame
  refine ls_ex (some 43) (.bool true) rfl rfl (exec_pick _ _ _ rfl true rfl (.bool true) rfl) ?_
  go_frame
  refine ls_ex (some 44) (.bool true) rfl rfl (exec_move _ rfl (.bool true) rfl) ?_
  go_frame
  refine ls_skip_g (some 45) rfl rfl ?_
  go_frame
  refine ls_skip_g (some 46) rfl rfl ?_
  go_frame
  refine ls_skip_g (some 47) rfl rfl ?_
  go_frame
  refine ls_ex (some 48) (.bool true) rfl rfl (exec_pick _ _ _ rfl true rfl (.bool true) rfl) ?_
  go_frame
  refine wpList_nil ?_
  go_upto_region 5 with (fail)
  refine wp_region_lit ?_
  refine ls_ex (some 10) (.int .i64 0) rfl rfl (exec_assign _ rfl (.int .i64 0) rfl) ?_
  go_frame
  refine ls_ex (some 11) (.int .i64 2) rfl rfl (exec_assign _ rfl (.int .i64 2) rfl) ?_
  go_frame
  refine wpList_nil ?_
  go_wp2_with fail
  go_ret2
  exact ⟨by rw [HC.out]; rfl, hB⟩
set_option maxHeartbeats 4000000 in
theorem specCf_z (p n m k : Int) (A : Option Addr) (c : Nat) (ts : List (List Nat)) (x y z h : Int) (w : World) (hR : RdT w A ts) (hlen : ts.length ≤ 1048576) (hs : borderB p n m k ts = true) (hx : inB x (n * m) = true) (hy : inB y (m * k) = true) (hz : inB z (n * k) = false) :
    Calls Try.prog 20 #[.agg #[.int .i64 p, .int .i64 n, .int .i64 m, .int .i64 k, .slice A ts.length c], .int .i64 x, .int .i64 y, .int .i64 z, .int .i64 h] w (fun e w' => e = .returned (.tuple #[.int .i64 (ifZ (cfCode p n m k ts x y z h) (cfI p ts x y z h)), .int .i64 (cfCode p n m k ts x y z h)]) ∧ Below w.heap.size w w') := by
  have hB := Below.refl w.heap.size w
  have hsz := (borderB_all hs).1
  have hl30 := (borderB_all hs).2.1
  obtain ⟨hb1, hb2, hb3⟩ := sizesB_mul hsz
  have Hpr := Lib.hid (sizesB_parts hsz)
  have hp5 := primeB_b2 Hpr.out.1
  have HC : Hid (cfCode p n m k ts x y z h = 2) := Lib.hid (by unfold cfCode cfOk; rw [hs, hx, hy, hz]; simp)
  obtain ⟨N1, hN1⟩ : ∃ N, n * m = N := ⟨_, rfl⟩
  obtain ⟨N2, hN2⟩ : ∃ N, m * k = N := ⟨_, rfl⟩
  obtain ⟨N3, hN3⟩ : ∃ N, n * k = N := ⟨_, rfl⟩
  have HN1 := Lib.hid hN1
  have HN2 := Lib.hid hN2
  have HN3 := Lib.hid hN3
  rw [hN1] at hb1
  rw [hN2] at hb2
  rw [hN3] at hb3
  have Hs := Lib.hid hs
  rw [hN1] at hx
  have Hx := Lib.hid hx
  clear hx
  rw [hN2] at hy
  have Hy := Lib.hid hy
  clear hy
  rw [hN3] at hz
  have Hz := Lib.hid hz
  clear hz
  clear hs hsz hN1 hN2 hN3
  
  go_enter Try.func20, Try.ntmps20
  go_upto_region 0 with (fail)
  refine wp_region_lit ?_
  refine ls_op rfl (fun K' hK' => ?_)
  have lz1 := hB.size
  refine wp_new (some 5) rfl (exec_box 33 _ rfl (#[.int .i64 p, .int .i64 n, .int .i64 m, .int .i64 k, .slice A ts.length c]) rfl) (fun Wz2 nnz3 => ?_)
  have bz4 := nnz3.below (Below.refl _ _) (Nat.le_refl _)
  replace hB := below_after hB bz4
  have hz5 : At Wz2 w.heap.size (.cells #[.int .i64 p, .int .i64 n, .int .i64 m, .int .i64 k, .slice A ts.length c] 33 (0, 0)) := nnz3.at_
  refine hK' _ _ ?_
  clear hK' K' nnz3 bz4
  go_frame
  refine ls_ex (some 10) (.int .i64 0) rfl rfl (exec_assign _ rfl (.int .i64 0) rfl) ?_
  go_frame
  refine ls_ex (some 11) (.int .i64 0) rfl rfl (exec_assign _ rfl (.int .i64 0) rfl) ?_
  go_frame
  refine wpList_nil ?_
  go_upto_region 1 with (fail)
  refine wp_region_lit ?_
  refine ls_ex (some 15) (.agg #[.int .i64 p, .int .i64 n, .int .i64 m, .int .i64 k, .slice A ts.length c]) rfl rfl (exec_load_all 33 _ rfl w.heap.size rfl _ _ _ hz5 Try.underlying33 rfl 5 (by kernel_rfl) rfl) ?_
  go_frame
  refine ls_op rfl (fun K' hK' => ?_)
  have lz8 := hB.size
  have lz9 := hz5.lt
  refine wp_call1 (some 16) rfl 23 _ _ rfl (fun args w => by kernel_rfl) _ rfl _ (l08Is_c p n m k A c ts _ (hR.keep hB) hlen) (fun e Wz6 h => ?_)
  obtain ⟨rfl, bz7⟩ := h
  replace hB := below_after hB bz7
  replace hz5 := hz5.after bz7
  rw [Hs.out]
  clear bz7
  refine ⟨_, rfl, ?_⟩
  refine hK' _ _ ?_
  clear hK' K'
  go_frame
  refine ls_ex (some 17) (.bool false) rfl rfl (exec_not _ _ rfl true rfl) ?_
  go_frame
  refine wpList_nil ?_
  go_upto_region 3 with (fail)
  refine wp_region_lit ?_
  refine ls_ex (some 19) (.agg #[.int .i64 p, .int .i64 n, .int .i64 m, .int .i64 k, .slice A ts.length c]) rfl rfl (exec_load_all 33 _ rfl w.heap.size rfl _ _ _ hz5 Try.underlying33 rfl 5 (by kernel_rfl) rfl) ?_
  go_frame
  refine ls_op rfl (fun K' hK' => ?_)
  have lz12 := hB.size
  have lz13 := hz5.lt
  have lo9 := hB.size
  refine wp_call1 (some 20) rfl 25 _ _ rfl (fun args w => by kernel_rfl) _ rfl _ (l08Like_c p n m k A ts.length c _) (fun e Wz10 h => ?_)
  obtain ⟨v7, rfl, ho, bz11⟩ := h
  replace hB := below_after hB bz11
  replace hz5 := hz5.after bz11
  obtain ⟨A7, c7, rfl⟩ := Own.rdN2 ho (n := 0) rfl
  clear bz11
  refine ⟨_, rfl, ?_⟩
  refine hK' _ _ ?_
  clear hK' K'
  go_frame
  refine ls_op rfl (fun K' hK' => ?_)
  have lz16 := hB.size
  have lz17 := hz5.lt
  refine wp_call1 (some 21) rfl 44 _ _ rfl (fun args w => by kernel_rfl) _ rfl _ (l01Lengths_c p n m k _ _ Hpr.out.2.1 Hpr.out.2.2.1 Hpr.out.2.2.2) (fun e Wz14 h => ?_)
  obtain ⟨rfl, bz15⟩ := h
  replace hB := below_after hB bz15
  replace hz5 := hz5.after bz15
  replace ho := ho.below bz15
  rw [HN1.out, HN2.out, HN3.out]
  clear bz15
  refine ⟨_, rfl, ?_⟩
  refine hK' _ _ ?_
  clear hK' K'
  go_frame
  refine ls_ex (some 18) (.tuple #[.int .i64 N1, .int .i64 N2, .int .i64 N3]) rfl rfl (exec_move _ rfl (.tuple #[.int .i64 N1, .int .i64 N2, .int .i64 N3]) rfl) ?_
  go_frame
  refine ls_ex (some 22) (.int .i64 N1) rfl rfl (exec_extract _ 0 rfl #[.int .i64 N1, .int .i64 N2, .int .i64 N3] (by rfl) _ rfl) ?_
  go_frame
  refine ls_ex (some 23) (.int .i64 N2) rfl rfl (exec_extract _ 1 rfl #[.int .i64 N1, .int .i64 N2, .int .i64 N3] (by rfl) _ rfl) ?_
  go_frame
  refine ls_ex (some 24) (.int .i64 N3) rfl rfl (exec_extract _ 2 rfl #[.int .i64 N1, .int .i64 N2, .int .i64 N3] (by rfl) _ rfl) ?_
  go_frame
  refine ls_ex (some 12) (.int .i64 N1) rfl rfl (exec_assign _ rfl (.int .i64 N1) rfl) ?_
  go_frame
  refine ls_ex (some 13) (.int .i64 N2) rfl rfl (exec_assign _ rfl (.int .i64 N2) rfl) ?_
  go_frame
  refine ls_ex (some 14) (.int .i64 N3) rfl rfl (exec_assign _ rfl (.int .i64 N3) rfl) ?_
  go_frame
  refine wpList_nil ?_
  go_upto_region 4 with (fail)
  refine wp_region_lit ?_
  refine ls_ex (some 25) (.int .i64 x) rfl rfl (exec_move _ rfl (.int .i64 x) rfl) ?_
  go_frame
  refine ls_ex (some 26) (.int .i64 N1) rfl rfl (exec_move _ rfl (.int .i64 N1) rfl) ?_
  go_frame
  refine ls_ex (some 27) (.int .i64 (N1 - 1)) rfl rfl (exec_sub _ _ _ _ rfl N1 1 (N1 - 1) rfl rfl (IntWalk.i64_in _ (by omega))) ?_
  go_frame
  refine ls_op rfl (fun K' hK' => ?_)
  have lz20 := hB.size
  have lz21 := hz5.lt
  refine wp_call3 (some 28) rfl 24 _ _ _ _ rfl (fun args w => by kernel_rfl) _ _ _ rfl rfl rfl _ (l01In_ix x N1 _) (fun e Wz18 h => ?_)
  obtain ⟨rfl, rfl⟩ := h
  rw [Hx.out]
  refine ⟨_, rfl, ?_⟩
  refine hK' _ _ ?_
  clear hK' K'
  go_frame
  refine ls_ex (some 29) (.bool false) rfl rfl (exec_not _ _ rfl true rfl) ?_
  go_frame
  refine ls_ex (some 30) (.bool false) rfl rfl (exec_move _ rfl (.bool false) rfl) ?_
  go_frame
  refine ls_ex_g (some 31) (.int .i64 y) rfl rfl (exec_move _ rfl (.int .i64 y) rfl) ?_
  go_frame
  refine ls_ex_g (some 32) (.int .i64 N2) rfl rfl (exec_move _ rfl (.int .i64 N2) rfl) ?_
  go_frame
  refine ls_ex_g (some 33) (.int .i64 (N2 - 1)) rfl rfl (exec_sub _ _ _ _ rfl N2 1 (N2 - 1) rfl rfl (IntWalk.i64_in _ (by omega))) ?_
  go_frame
  refine ls_op_g rfl (fun K' hK' => ?_)
  have lz24 := hB.size
  have lz25 := hz5.lt
  refine wp_call3 (some 34) rfl 24 _ _ _ _ rfl (fun args w => by kernel_rfl) _ _ _ rfl rfl rfl _ (l01In_ix y N2 _) (fun e Wz22 h => ?_)
  obtain ⟨rfl, rfl⟩ := h
  rw [Hy.out]
  refine ⟨_, rfl, ?_⟩
  refine hK' _ _ ?_
  clear hK' K'
  go_frame
  refine ls_ex_g (some 35) (.bool false) rfl rfl (exec_not _ _ rfl true rfl) ?_
  go_frame
  refine ls_ex (some 36) (.bool false) rfl rfl (exec_pick _ _ _ rfl false rfl (.bool false) rfl) ?_
  go_frame
  refine ls_ex (some 37) (.bool false) rfl rfl (exec_move _ rfl (.bool false) rfl) ?_
  go_frame
  refine ls_ex_g (some 38) (.int .i64 z) rfl rfl (exec_move _ rfl (.int .i64 z) rfl) ?_
  go_frame
  refine ls_ex_g (some 39) (.int .i64 N3) rfl rfl (exec_move _ rfl (.int .i64 N3) rfl) ?_
  go_frame
  refine ls_ex_g (some 40) (.int .i64 (N3 - 1)) rfl rfl (exec_sub _ _ _ _ rfl N3 1 (N3 - 1) rfl rfl (IntWalk.i64_in _ (by omega))) ?_
  go_frame
  refine ls_op_g rfl (fun K' hK' => ?_)
  have lz28 := hB.size
  have lz29 := hz5.lt
  refine wp_call3 (some 41) rfl 24 _ _ _ _ rfl (fun args w => by kernel_rfl) _ _ _ rfl rfl rfl _ (l01In_ix z N3 _) (fun e Wz26 h => ?_)
  obtain ⟨rfl, rfl⟩ := h
  rw [Hz.out]
  refine ⟨_, rfl, ?_⟩
  refine hK' _ _ ?_
  clear hK' K'
  go_frame
  refine ls_ex_g (some 42) (.bool true) rfl rfl (exec_not _ _ rfl false rfl) ?_
  go_frame
  refine ls_ex (some 43) (.bool true) rfl rfl (exec_pick _ _ _ rfl false rfl (.bool true) rfl) ?_
  go_frame
  refine ls_ex (some 44) (.bool true) rfl rfl (exec_move _ rfl (.bool true) rfl) ?_
  go_frame
  refine ls_skip_g (some 45) rfl rfl ?_
  go_frame
  refine ls_skip_g (some 46) rfl rfl ?_
  go_frame
  refine ls_skip_g (some 47) rfl rfl ?_
  go_frame
  refine ls_ex (some 48) (.bool true) rfl rfl (exec_pick _ _ _ rfl true rfl (.bool true) rfl) ?_
  go_frame
  refine wpList_nil ?_
  go_upto_region 5 with (fail)
  refine wp_region_lit ?_
  refine ls_ex (some 10) (.int .i64 0) rfl rfl (exec_assign _ rfl (.int .i64 0) rfl) ?_
  go_frame
  refine ls_ex (some 11) (.int .i64 2) rfl rfl (exec_assign _ rfl (.int .i64 2) rfl) ?_
  go_frame
  refine wpList_nil ?_
  go_wp2_with fail
  go_ret2
  exact ⟨by rw [HC.out]; rfl, hB⟩
set_option maxHeartbeats 4000000 in
theorem specCf_h (p n m k : Int) (A : Option Addr) (c : Nat) (ts : List (List Nat)) (x y z h : Int) (w : World) (hR : RdT w A ts) (hlen : ts.length ≤ 1048576) (hs : borderB p n m k ts = true) (hx : inB x (n * m) = true) (hy : inB y (m * k) = true) (hz : inB z (n * k) = true) (hh : (decide (0 ≤ h) && decide (h ≤ 9)) = false) :
    Calls Try.prog 20 #[.agg #[.int .i64 p, .int .i64 n, .int .i64 m, .int .i64 k, .slice A ts.length c], .int .i64 x, .int .i64 y, .int .i64 z, .int .i64 h] w (fun e w' => e = .returned (.tuple #[.int .i64 (ifZ (cfCode p n m k ts x y z h) (cfI p ts x y z h)), .int .i64 (cfCode p n m k ts x y z h)]) ∧ Below w.heap.size w w') := by
  have hB := Below.refl w.heap.size w
  have hsz := (borderB_all hs).1
  have hl30 := (borderB_all hs).2.1
  obtain ⟨hb1, hb2, hb3⟩ := sizesB_mul hsz
  have Hpr := Lib.hid (sizesB_parts hsz)
  have hp5 := primeB_b2 Hpr.out.1
  have HC : Hid (cfCode p n m k ts x y z h = 2) := Lib.hid (by unfold cfCode cfOk; rw [hs, hx, hy, hz, hh]; simp)
  obtain ⟨N1, hN1⟩ : ∃ N, n * m = N := ⟨_, rfl⟩
  obtain ⟨N2, hN2⟩ : ∃ N, m * k = N := ⟨_, rfl⟩
  obtain ⟨N3, hN3⟩ : ∃ N, n * k = N := ⟨_, rfl⟩
  have HN1 := Lib.hid hN1
  have HN2 := Lib.hid hN2
  have HN3 := Lib.hid hN3
  rw [hN1] at hb1
  rw [hN2] at hb2
  rw [hN3] at hb3
  have Hs := Lib.hid hs
  rw [hN1] at hx
  have Hx := Lib.hid hx
  clear hx
  rw [hN2] at hy
  have Hy := Lib.hid hy
  clear hy
  rw [hN3] at hz
  have Hz := Lib.hid hz
  clear hz
  have Hh := Lib.hid hh
  clear hh
  clear hs hsz hN1 hN2 hN3
  
  go_enter Try.func20, Try.ntmps20
  go_upto_region 0 with (fail)
  refine wp_region_lit ?_
  refine ls_op rfl (fun K' hK' => ?_)
  have lz1 := hB.size
  refine wp_new (some 5) rfl (exec_box 33 _ rfl (#[.int .i64 p, .int .i64 n, .int .i64 m, .int .i64 k, .slice A ts.length c]) rfl) (fun Wz2 nnz3 => ?_)
  have bz4 := nnz3.below (Below.refl _ _) (Nat.le_refl _)
  replace hB := below_after hB bz4
  have hz5 : At Wz2 w.heap.size (.cells #[.int .i64 p, .int .i64 n, .int .i64 m, .int .i64 k, .slice A ts.length c] 33 (0, 0)) := nnz3.at_
  refine hK' _ _ ?_
  clear hK' K' nnz3 bz4
  go_frame
  refine ls_ex (some 10) (.int .i64 0) rfl rfl (exec_assign _ rfl (.int .i64 0) rfl) ?_
  go_frame
  refine ls_ex (some 11) (.int .i64 0) rfl rfl (exec_assign _ rfl (.int .i64 0) rfl) ?_
  go_frame
  refine wpList_nil ?_
  go_upto_region 1 with (fail)
  refine wp_region_lit ?_
  refine ls_ex (some 15) (.agg #[.int .i64 p, .int .i64 n, .int .i64 m, .int .i64 k, .slice A ts.length c]) rfl rfl (exec_load_all 33 _ rfl w.heap.size rfl _ _ _ hz5 Try.underlying33 rfl 5 (by kernel_rfl) rfl) ?_
  go_frame
  refine ls_op rfl (fun K' hK' => ?_)
  have lz8 := hB.size
  have lz9 := hz5.lt
  refine wp_call1 (some 16) rfl 23 _ _ rfl (fun args w => by kernel_rfl) _ rfl _ (l08Is_c p n m k A c ts _ (hR.keep hB) hlen) (fun e Wz6 h => ?_)
  obtain ⟨rfl, bz7⟩ := h
  replace hB := below_after hB bz7
  replace hz5 := hz5.after bz7
  rw [Hs.out]
  clear bz7
  refine ⟨_, rfl, ?_⟩
  refine hK' _ _ ?_
  clear hK' K'
  go_frame
  refine ls_ex (some 17) (.bool false) rfl rfl (exec_not _ _ rfl true rfl) ?_
  go_frame
  refine wpList_nil ?_
  go_upto_region 3 with (fail)
  refine wp_region_lit ?_
  refine ls_ex (some 19) (.agg #[.int .i64 p, .int .i64 n, .int .i64 m, .int .i64 k, .slice A ts.length c]) rfl rfl (exec_load_all 33 _ rfl w.heap.size rfl _ _ _ hz5 Try.underlying33 rfl 5 (by kernel_rfl) rfl) ?_
  go_frame
  refine ls_op rfl (fun K' hK' => ?_)
  have lz12 := hB.size
  have lz13 := hz5.lt
  have lo9 := hB.size
  refine wp_call1 (some 20) rfl 25 _ _ rfl (fun args w => by kernel_rfl) _ rfl _ (l08Like_c p n m k A ts.length c _) (fun e Wz10 h => ?_)
  obtain ⟨v7, rfl, ho, bz11⟩ := h
  replace hB := below_after hB bz11
  replace hz5 := hz5.after bz11
  obtain ⟨A7, c7, rfl⟩ := Own.rdN2 ho (n := 0) rfl
  clear bz11
  refine ⟨_, rfl, ?_⟩
  refine hK' _ _ ?_
  clear hK' K'
  go_frame
  refine ls_op rfl (fun K' hK' => ?_)
  have lz16 := hB.size
  have lz17 := hz5.lt
  refine wp_call1 (some 21) rfl 44 _ _ rfl (fun args w => by kernel_rfl) _ rfl _ (l01Lengths_c p n m k _ _ Hpr.out.2.1 Hpr.out.2.2.1 Hpr.out.2.2.2) (fun e Wz14 h => ?_)
  obtain ⟨rfl, bz15⟩ := h
  replace hB := below_after hB bz15
  replace hz5 := hz5.after bz15
  replace ho := ho.below bz15
  rw [HN1.out, HN2.out, HN3.out]
  clear bz15
  refine ⟨_, rfl, ?_⟩
  refine hK' _ _ ?_
  clear hK' K'
  go_frame
  refine ls_ex (some 18) (.tuple #[.int .i64 N1, .int .i64 N2, .int .i64 N3]) rfl rfl (exec_move _ rfl (.tuple #[.int .i64 N1, .int .i64 N2, .int .i64 N3]) rfl) ?_
  go_frame
  refine ls_ex (some 22) (.int .i64 N1) rfl rfl (exec_extract _ 0 rfl #[.int .i64 N1, .int .i64 N2, .int .i64 N3] (by rfl) _ rfl) ?_
  go_frame
  refine ls_ex (some 23) (.int .i64 N2) rfl rfl (exec_extract _ 1 rfl #[.int .i64 N1, .int .i64 N2, .int .i64 N3] (by rfl) _ rfl) ?_
  go_frame
  refine ls_ex (some 24) (.int .i64 N3) rfl rfl (exec_extract _ 2 rfl #[.int .i64 N1, .int .i64 N2, .int .i64 N3] (by rfl) _ rfl) ?_
  go_frame
  refine ls_ex (some 12) (.int .i64 N1) rfl rfl (exec_assign _ rfl (.int .i64 N1) rfl) ?_
  go_frame
  refine ls_ex (some 13) (.int .i64 N2) rfl rfl (exec_assign _ rfl (.int .i64 N2) rfl) ?_
  go_frame
  refine ls_ex (some 14) (.int .i64 N3) rfl rfl (exec_assign _ rfl (.int .i64 N3) rfl) ?_
  go_frame
  refine wpList_nil ?_
  go_upto_region 4 with (fail)
  refine wp_region_lit ?_
  refine ls_ex (some 25) (.int .i64 x) rfl rfl (exec_move _ rfl (.int .i64 x) rfl) ?_
  go_frame
  refine ls_ex (some 26) (.int .i64 N1) rfl rfl (exec_move _ rfl (.int .i64 N1) rfl) ?_
  go_frame
  refine ls_ex (some 27) (.int .i64 (N1 - 1)) rfl rfl (exec_sub _ _ _ _ rfl N1 1 (N1 - 1) rfl rfl (IntWalk.i64_in _ (by omega))) ?_
  go_frame
  refine ls_op rfl (fun K' hK' => ?_)
  have lz20 := hB.size
  have lz21 := hz5.lt
  refine wp_call3 (some 28) rfl 24 _ _ _ _ rfl (fun args w => by kernel_rfl) _ _ _ rfl rfl rfl _ (l01In_ix x N1 _) (fun e Wz18 h => ?_)
  obtain ⟨rfl, rfl⟩ := h
  rw [Hx.out]
  refine ⟨_, rfl, ?_⟩
  refine hK' _ _ ?_
  clear hK' K'
  go_frame
  refine ls_ex (some 29) (.bool false) rfl rfl (exec_not _ _ rfl true rfl) ?_
  go_frame
  refine ls_ex (some 30) (.bool false) rfl rfl (exec_move _ rfl (.bool false) rfl) ?_
  go_frame
  refine ls_ex_g (some 31) (.int .i64 y) rfl rfl (exec_move _ rfl (.int .i64 y) rfl) ?_
  go_frame
  refine ls_ex_g (some 32) (.int .i64 N2) rfl rfl (exec_move _ rfl (.int .i64 N2) rfl) ?_
  go_frame
  refine ls_ex_g (some 33) (.int .i64 (N2 - 1)) rfl rfl (exec_sub _ _ _ _ rfl N2 1 (N2 - 1) rfl rfl (IntWalk.i64_in _ (by omega))) ?_
  go_frame
  refine ls_op_g rfl (fun K' hK' => ?_)
  have lz24 := hB.size
  have lz25 := hz5.lt
  refine wp_call3 (some 34) rfl 24 _ _ _ _ rfl (fun args w => by kernel_rfl) _ _ _ rfl rfl rfl _ (l01In_ix y N2 _) (fun e Wz22 h => ?_)
  obtain ⟨rfl, rfl⟩ := h
  rw [Hy.out]
  refine ⟨_, rfl, ?_⟩
  refine hK' _ _ ?_
  clear hK' K'
  go_frame
  refine ls_ex_g (some 35) (.bool false) rfl rfl (exec_not _ _ rfl true rfl) ?_
  go_frame
  refine ls_ex (some 36) (.bool false) rfl rfl (exec_pick _ _ _ rfl false rfl (.bool false) rfl) ?_
  go_frame
  refine ls_ex (some 37) (.bool false) rfl rfl (exec_move _ rfl (.bool false) rfl) ?_
  go_frame
  refine ls_ex_g (some 38) (.int .i64 z) rfl rfl (exec_move _ rfl (.int .i64 z) rfl) ?_
  go_frame
  refine ls_ex_g (some 39) (.int .i64 N3) rfl rfl (exec_move _ rfl (.int .i64 N3) rfl) ?_
  go_frame
  refine ls_ex_g (some 40) (.int .i64 (N3 - 1)) rfl rfl (exec_sub _ _ _ _ rfl N3 1 (N3 - 1) rfl rfl (IntWalk.i64_in _ (by omega))) ?_
  go_frame
  refine ls_op_g rfl (fun K' hK' => ?_)
  have lz28 := hB.size
  have lz29 := hz5.lt
  refine wp_call3 (some 41) rfl 24 _ _ _ _ rfl (fun args w => by kernel_rfl) _ _ _ rfl rfl rfl _ (l01In_ix z N3 _) (fun e Wz26 h => ?_)
  obtain ⟨rfl, rfl⟩ := h
  rw [Hz.out]
  refine ⟨_, rfl, ?_⟩
  refine hK' _ _ ?_
  clear hK' K'
  go_frame
  refine ls_ex_g (some 42) (.bool false) rfl rfl (exec_not _ _ rfl true rfl) ?_
  go_frame
  refine ls_ex (some 43) (.bool false) rfl rfl (exec_pick _ _ _ rfl false rfl (.bool false) rfl) ?_
  go_frame
  refine ls_ex (some 44) (.bool false) rfl rfl (exec_move _ rfl (.bool false) rfl) ?_
  go_frame
  refine ls_ex_g (some 45) (.int .i64 h) rfl rfl (exec_move _ rfl (.int .i64 h) rfl) ?_
  go_frame
  refine ls_op_g rfl (fun K' hK' => ?_)
  have lz32 := hB.size
  have lz33 := hz5.lt
  refine wp_call3 (some 46) rfl 24 _ _ _ _ rfl (fun args w => by kernel_rfl) _ _ _ rfl rfl rfl _ (l01In_c h 0 9 _) (fun e Wz30 h => ?_)
  obtain ⟨rfl, rfl⟩ := h
  rw [Hh.out]
  refine ⟨_, rfl, ?_⟩
  refine hK' _ _ ?_
  clear hK' K'
  go_frame
  refine ls_ex_g (some 47) (.bool true) rfl rfl (exec_not _ _ rfl false rfl) ?_
  go_frame
  refine ls_ex (some 48) (.bool true) rfl rfl (exec_pick _ _ _ rfl false rfl (.bool true) rfl) ?_
  go_frame
  refine wpList_nil ?_
  go_upto_region 5 with (fail)
  refine wp_region_lit ?_
  refine ls_ex (some 10) (.int .i64 0) rfl rfl (exec_assign _ rfl (.int .i64 0) rfl) ?_
  go_frame
  refine ls_ex (some 11) (.int .i64 2) rfl rfl (exec_assign _ rfl (.int .i64 2) rfl) ?_
  go_frame
  refine wpList_nil ?_
  go_wp2_with fail
  go_ret2
  exact ⟨by rw [HC.out]; rfl, hB⟩
set_option maxHeartbeats 12800000 in
theorem specCf_v (p n m k : Int) (A : Option Addr) (c : Nat) (ts : List (List Nat)) (x y z h : Nat) (w : World) (hR : RdT w A ts) (hlen : ts.length ≤ 1048576) (hs : borderB p n m k ts = true) (hix : inB x (n * m) = true) (hiy : inB y (m * k) = true) (hiz : inB z (n * k) = true) (h9 : h ≤ 9) :
    Calls Try.prog 20 #[.agg #[.int .i64 p, .int .i64 n, .int .i64 m, .int .i64 k, .slice A ts.length c], .int .i64 (x : Int), .int .i64 (y : Int), .int .i64 (z : Int), .int .i64 (h : Int)] w (fun e w' => e = .returned (.tuple #[.int .i64 (ifZ (cfCode p n m k ts (x : Int) (y : Int) (z : Int) (h : Int)) (cfI p ts (x : Int) (y : Int) (z : Int) (h : Int))), .int .i64 (cfCode p n m k ts (x : Int) (y : Int) (z : Int) (h : Int))]) ∧ Below w.heap.size w w') := by
  have hB := Below.refl w.heap.size w
  have hsz := (borderB_all hs).1
  have hl30 := (borderB_all hs).2.1
  obtain ⟨hb1, hb2, hb3⟩ := sizesB_mul hsz
  have Hpr := Lib.hid (sizesB_parts hsz)
  have hp5 := primeB_b2 Hpr.out.1
  have hh : (decide (0 ≤ (h : Int)) && decide ((h : Int) ≤ 9)) = true := by rw [decide_eq_true (show (0 : Int) ≤ h by omega), decide_eq_true (show (h : Int) ≤ 9 by omega)]; rfl
  have HC : Hid (cfCode p n m k ts x y z h = 0) := Lib.hid (by unfold cfCode cfOk; rw [hs, hix, hiy, hiz, hh]; rfl)
  have Hh := Lib.hid hh
  clear hh
  obtain ⟨N1, hN1⟩ : ∃ N, n * m = N := ⟨_, rfl⟩
  obtain ⟨N2, hN2⟩ : ∃ N, m * k = N := ⟨_, rfl⟩
  obtain ⟨N3, hN3⟩ : ∃ N, n * k = N := ⟨_, rfl⟩
  have HN1 := Lib.hid hN1
  have HN2 := Lib.hid hN2
  have HN3 := Lib.hid hN3
  rw [hN1] at hb1
  rw [hN2] at hb2
  rw [hN3] at hb3
  have Hs := Lib.hid hs
  rw [hN1] at hix
  rw [hN2] at hiy
  rw [hN3] at hiz
  have hx : x < 9 := by
    have h8 := hix
    simp only [inB, Bool.and_eq_true, decide_eq_true_eq] at h8
    omega
  have hy : y < 9 := by
    have h8 := hiy
    simp only [inB, Bool.and_eq_true, decide_eq_true_eq] at h8
    omega
  have hz : z < 9 := by
    have h8 := hiz
    simp only [inB, Bool.and_eq_true, decide_eq_true_eq] at h8
    omega
  have Hx := Lib.hid hix
  clear hix
  have Hy := Lib.hid hiy
  clear hiy
  have Hz := Lib.hid hiz
  clear hiz
  clear hs hsz hN1 hN2 hN3
  
  have HV : Hid (cfI p ts (x : Int) (y : Int) (z : Int) (h : Int) = ((sumN (exL h ts) x y z % p.toNat : Nat) : Int)) := Lib.hid (by unfold cfI; rw [Int.toNat_natCast, Int.toNat_natCast, Int.toNat_natCast, Int.toNat_natCast])
  
  go_enter Try.func20, Try.ntmps20
  go_upto_region 0 with (fail)
  refine wp_region_lit ?_
  refine ls_op rfl (fun K' hK' => ?_)
  have lz1 := hB.size
  refine wp_new (some 5) rfl (exec_box 33 _ rfl (#[.int .i64 p, .int .i64 n, .int .i64 m, .int .i64 k, .slice A ts.length c]) rfl) (fun Wz2 nnz3 => ?_)
  have bz4 := nnz3.below (Below.refl _ _) (Nat.le_refl _)
  replace hB := below_after hB bz4
  have hz5 : At Wz2 w.heap.size (.cells #[.int .i64 p, .int .i64 n, .int .i64 m, .int .i64 k, .slice A ts.length c] 33 (0, 0)) := nnz3.at_
  refine hK' _ _ ?_
  clear hK' K' nnz3 bz4
  go_frame
  refine ls_ex (some 10) (.int .i64 0) rfl rfl (exec_assign _ rfl (.int .i64 0) rfl) ?_
  go_frame
  refine ls_ex (some 11) (.int .i64 0) rfl rfl (exec_assign _ rfl (.int .i64 0) rfl) ?_
  go_frame
  refine wpList_nil ?_
  go_upto_region 1 with (fail)
  refine wp_region_lit ?_
  refine ls_ex (some 15) (.agg #[.int .i64 p, .int .i64 n, .int .i64 m, .int .i64 k, .slice A ts.length c]) rfl rfl (exec_load_all 33 _ rfl w.heap.size rfl _ _ _ hz5 Try.underlying33 rfl 5 (by kernel_rfl) rfl) ?_
  go_frame
  refine ls_op rfl (fun K' hK' => ?_)
  have lz8 := hB.size
  have lz9 := hz5.lt
  refine wp_call1 (some 16) rfl 23 _ _ rfl (fun args w => by kernel_rfl) _ rfl _ (l08Is_c p n m k A c ts _ (hR.keep hB) hlen) (fun e Wz6 h => ?_)
  obtain ⟨rfl, bz7⟩ := h
  replace hB := below_after hB bz7
  replace hz5 := hz5.after bz7
  rw [Hs.out]
  clear bz7
  refine ⟨_, rfl, ?_⟩
  refine hK' _ _ ?_
  clear hK' K'
  go_frame
  refine ls_ex (some 17) (.bool false) rfl rfl (exec_not _ _ rfl true rfl) ?_
  go_frame
  refine wpList_nil ?_
  go_upto_region 3 with (fail)
  refine wp_region_lit ?_
  refine ls_ex (some 19) (.agg #[.int .i64 p, .int .i64 n, .int .i64 m, .int .i64 k, .slice A ts.length c]) rfl rfl (exec_load_all 33 _ rfl w.heap.size rfl _ _ _ hz5 Try.underlying33 rfl 5 (by kernel_rfl) rfl) ?_
  go_frame
  refine ls_op rfl (fun K' hK' => ?_)
  have lz12 := hB.size
  have lz13 := hz5.lt
  have lo9 := hB.size
  refine wp_call1 (some 20) rfl 25 _ _ rfl (fun args w => by kernel_rfl) _ rfl _ (l08Like_c p n m k A ts.length c _) (fun e Wz10 h => ?_)
  obtain ⟨v7, rfl, ho, bz11⟩ := h
  replace hB := below_after hB bz11
  replace hz5 := hz5.after bz11
  obtain ⟨A7, c7, rfl⟩ := Own.rdN2 ho (n := 0) rfl
  clear bz11
  refine ⟨_, rfl, ?_⟩
  refine hK' _ _ ?_
  clear hK' K'
  go_frame
  refine ls_op rfl (fun K' hK' => ?_)
  have lz16 := hB.size
  have lz17 := hz5.lt
  refine wp_call1 (some 21) rfl 44 _ _ rfl (fun args w => by kernel_rfl) _ rfl _ (l01Lengths_c p n m k _ _ Hpr.out.2.1 Hpr.out.2.2.1 Hpr.out.2.2.2) (fun e Wz14 h => ?_)
  obtain ⟨rfl, bz15⟩ := h
  replace hB := below_after hB bz15
  replace hz5 := hz5.after bz15
  replace ho := ho.below bz15
  rw [HN1.out, HN2.out, HN3.out]
  clear bz15
  refine ⟨_, rfl, ?_⟩
  refine hK' _ _ ?_
  clear hK' K'
  go_frame
  refine ls_ex (some 18) (.tuple #[.int .i64 N1, .int .i64 N2, .int .i64 N3]) rfl rfl (exec_move _ rfl (.tuple #[.int .i64 N1, .int .i64 N2, .int .i64 N3]) rfl) ?_
  go_frame
  refine ls_ex (some 22) (.int .i64 N1) rfl rfl (exec_extract _ 0 rfl #[.int .i64 N1, .int .i64 N2, .int .i64 N3] (by rfl) _ rfl) ?_
  go_frame
  refine ls_ex (some 23) (.int .i64 N2) rfl rfl (exec_extract _ 1 rfl #[.int .i64 N1, .int .i64 N2, .int .i64 N3] (by rfl) _ rfl) ?_
  go_frame
  refine ls_ex (some 24) (.int .i64 N3) rfl rfl (exec_extract _ 2 rfl #[.int .i64 N1, .int .i64 N2, .int .i64 N3] (by rfl) _ rfl) ?_
  go_frame
  refine ls_ex (some 12) (.int .i64 N1) rfl rfl (exec_assign _ rfl (.int .i64 N1) rfl) ?_
  go_frame
  refine ls_ex (some 13) (.int .i64 N2) rfl rfl (exec_assign _ rfl (.int .i64 N2) rfl) ?_
  go_frame
  refine ls_ex (some 14) (.int .i64 N3) rfl rfl (exec_assign _ rfl (.int .i64 N3) rfl) ?_
  go_frame
  refine wpList_nil ?_
  go_upto_region 4 with (fail)
  refine wp_region_lit ?_
  refine ls_ex (some 25) (.int .i64 x) rfl rfl (exec_move _ rfl (.int .i64 x) rfl) ?_
  go_frame
  refine ls_ex (some 26) (.int .i64 N1) rfl rfl (exec_move _ rfl (.int .i64 N1) rfl) ?_
  go_frame
  refine ls_ex (some 27) (.int .i64 (N1 - 1)) rfl rfl (exec_sub _ _ _ _ rfl N1 1 (N1 - 1) rfl rfl (IntWalk.i64_in _ (by omega))) ?_
  go_frame
  refine ls_op rfl (fun K' hK' => ?_)
  have lz20 := hB.size
  have lz21 := hz5.lt
  refine wp_call3 (some 28) rfl 24 _ _ _ _ rfl (fun args w => by kernel_rfl) _ _ _ rfl rfl rfl _ (l01In_ix x N1 _) (fun e Wz18 h => ?_)
  obtain ⟨rfl, rfl⟩ := h
  rw [Hx.out]
  refine ⟨_, rfl, ?_⟩
  refine hK' _ _ ?_
  clear hK' K'
  go_frame
  refine ls_ex (some 29) (.bool false) rfl rfl (exec_not _ _ rfl true rfl) ?_
  go_frame
  refine ls_ex (some 30) (.bool false) rfl rfl (exec_move _ rfl (.bool false) rfl) ?_
  go_frame
  refine ls_ex_g (some 31) (.int .i64 y) rfl rfl (exec_move _ rfl (.int .i64 y) rfl) ?_
  go_frame
  refine ls_ex_g (some 32) (.int .i64 N2) rfl rfl (exec_move _ rfl (.int .i64 N2) rfl) ?_
  go_frame
  refine ls_ex_g (some 33) (.int .i64 (N2 - 1)) rfl rfl (exec_sub _ _ _ _ rfl N2 1 (N2 - 1) rfl rfl (IntWalk.i64_in _ (by omega))) ?_
  go_frame
  refine ls_op_g rfl (fun K' hK' => ?_)
  have lz24 := hB.size
  have lz25 := hz5.lt
  refine wp_call3 (some 34) rfl 24 _ _ _ _ rfl (fun args w => by kernel_rfl) _ _ _ rfl rfl rfl _ (l01In_ix y N2 _) (fun e Wz22 h => ?_)
  obtain ⟨rfl, rfl⟩ := h
  rw [Hy.out]
  refine ⟨_, rfl, ?_⟩
  refine hK' _ _ ?_
  clear hK' K'
  go_frame
  refine ls_ex_g (some 35) (.bool false) rfl rfl (exec_not _ _ rfl true rfl) ?_
  go_frame
  refine ls_ex (some 36) (.bool false) rfl rfl (exec_pick _ _ _ rfl false rfl (.bool false) rfl) ?_
  go_frame
  refine ls_ex (some 37) (.bool false) rfl rfl (exec_move _ rfl (.bool false) rfl) ?_
  go_frame
  refine ls_ex_g (some 38) (.int .i64 z) rfl rfl (exec_move _ rfl (.int .i64 z) rfl) ?_
  go_frame
  refine ls_ex_g (some 39) (.int .i64 N3) rfl rfl (exec_move _ rfl (.int .i64 N3) rfl) ?_
  go_frame
  refine ls_ex_g (some 40) (.int .i64 (N3 - 1)) rfl rfl (exec_sub _ _ _ _ rfl N3 1 (N3 - 1) rfl rfl (IntWalk.i64_in _ (by omega))) ?_
  go_frame
  refine ls_op_g rfl (fun K' hK' => ?_)
  have lz28 := hB.size
  have lz29 := hz5.lt
  refine wp_call3 (some 41) rfl 24 _ _ _ _ rfl (fun args w => by kernel_rfl) _ _ _ rfl rfl rfl _ (l01In_ix z N3 _) (fun e Wz26 h => ?_)
  obtain ⟨rfl, rfl⟩ := h
  rw [Hz.out]
  refine ⟨_, rfl, ?_⟩
  refine hK' _ _ ?_
  clear hK' K'
  go_frame
  refine ls_ex_g (some 42) (.bool false) rfl rfl (exec_not _ _ rfl true rfl) ?_
  go_frame
  refine ls_ex (some 43) (.bool false) rfl rfl (exec_pick _ _ _ rfl false rfl (.bool false) rfl) ?_
  go_frame
  refine ls_ex (some 44) (.bool false) rfl rfl (exec_move _ rfl (.bool false) rfl) ?_
  go_frame
  refine ls_ex_g (some 45) (.int .i64 h) rfl rfl (exec_move _ rfl (.int .i64 h) rfl) ?_
  go_frame
  refine ls_op_g rfl (fun K' hK' => ?_)
  have lz32 := hB.size
  have lz33 := hz5.lt
  refine wp_call3 (some 46) rfl 24 _ _ _ _ rfl (fun args w => by kernel_rfl) _ _ _ rfl rfl rfl _ (l01In_c h 0 9 _) (fun e Wz30 h => ?_)
  obtain ⟨rfl, rfl⟩ := h
  rw [Hh.out]
  refine ⟨_, rfl, ?_⟩
  refine hK' _ _ ?_
  clear hK' K'
  go_frame
  refine ls_ex_g (some 47) (.bool false) rfl rfl (exec_not _ _ rfl true rfl) ?_
  go_frame
  refine ls_ex (some 48) (.bool false) rfl rfl (exec_pick _ _ _ rfl false rfl (.bool false) rfl) ?_
  go_frame
  refine wpList_nil ?_
  go_upto_region 6 with (fail)
  refine wp_region_lit ?_
  refine ls_ex (some 49) (.agg #[.int .i64 p, .int .i64 n, .int .i64 m, .int .i64 k, .slice A ts.length c]) rfl rfl (exec_load_all 33 _ rfl w.heap.size rfl _ _ _ hz5 Try.underlying33 rfl 5 (by kernel_rfl) rfl) ?_
  go_frame
  refine ls_ex (some 50) (.int .i64 x) rfl rfl (exec_move _ rfl (.int .i64 x) rfl) ?_
  go_frame
  refine ls_ex (some 51) (.int .i64 y) rfl rfl (exec_move _ rfl (.int .i64 y) rfl) ?_
  go_frame
  refine ls_ex (some 52) (.int .i64 z) rfl rfl (exec_move _ rfl (.int .i64 z) rfl) ?_
  go_frame
  refine ls_ex (some 53) (.int .i64 h) rfl rfl (exec_move _ rfl (.int .i64 h) rfl) ?_
  go_frame
  refine ls_op rfl (fun K' hK' => ?_)
  have lz36 := hB.size
  have lz37 := hz5.lt
  refine wp_call5 (some 54) rfl 45 _ _ _ _ _ _ rfl (fun args w => by kernel_rfl) _ _ _ _ _ rfl rfl rfl rfl rfl _ (l08At_c p n m k A c ts x y z h hx hy hz h9 hp5 _ (hR.keep hB) hl30) (fun e Wz34 h => ?_)
  obtain ⟨rfl, bz35⟩ := h
  replace hB := below_after hB bz35
  replace hz5 := hz5.after bz35
  replace ho := ho.below bz35
  clear bz35
  refine ⟨_, rfl, ?_⟩
  refine hK' _ _ ?_
  clear hK' K'
  go_frame
  refine ls_ex (some 10) (.int .i64 ((sumN (exL h ts) x y z % p.toNat : Nat) : Int)) rfl rfl (exec_assign _ rfl (.int .i64 ((sumN (exL h ts) x y z % p.toNat : Nat) : Int)) rfl) ?_
  go_frame
  refine ls_ex (some 11) (.int .i64 0) rfl rfl (exec_assign _ rfl (.int .i64 0) rfl) ?_
  go_frame
  refine wpList_nil ?_
  go_wp2_with fail
  go_ret2
  exact ⟨by rw [HC.out, HV.out]; rfl, hB⟩
set_option maxHeartbeats 4000000 in
theorem implCf_b (p n m k : Int) (A : Option Addr) (c : Nat) (ts : List (List Nat)) (x y z h : Int) (w : World) (hR : RdT w A ts) (hlen : ts.length ≤ 1048576) (hs : borderB p n m k ts = true) (he : eqnB n m k x y z = false) :
    Calls Try.prog 21 #[.agg #[.int .i64 p, .int .i64 n, .int .i64 m, .int .i64 k, .slice A ts.length c], .int .i64 x, .int .i64 y, .int .i64 z, .int .i64 h] w (fun e w' => e = .returned (.tuple #[.int .i64 (ifZ (cfCode p n m k ts x y z h) (cfI p ts x y z h)), .int .i64 (cfCode p n m k ts x y z h)]) ∧ Below w.heap.size w w') := by
  have hB := Below.refl w.heap.size w
  have hl30 := (borderB_all hs).2.1
  have Hpr := Lib.hid (sizesB_parts (borderB_all hs).1)
  have hp5 := primeB_b2 Hpr.out.1
  have HC : Hid (cfCode p n m k ts x y z h = 2) := Lib.hid (by unfold cfCode cfOk; rw [hs]; unfold eqnB at he; rw [he]; rfl)
  have Hs := Lib.hid hs
  have He := Lib.hid he
  clear hs he
  
  go_enter Try.func21, Try.ntmps21
  go_upto_region 0 with (fail)
  refine wp_region_lit ?_
  refine ls_op rfl (fun K' hK' => ?_)
  have lz1 := hB.size
  refine wp_new (some 5) rfl (exec_box 33 _ rfl (#[.int .i64 p, .int .i64 n, .int .i64 m, .int .i64 k, .slice A ts.length c]) rfl) (fun Wz2 nnz3 => ?_)
  have bz4 := nnz3.below (Below.refl _ _) (Nat.le_refl _)
  replace hB := below_after hB bz4
  have hz5 : At Wz2 w.heap.size (.cells #[.int .i64 p, .int .i64 n, .int .i64 m, .int .i64 k, .slice A ts.length c] 33 (0, 0)) := nnz3.at_
  refine hK' _ _ ?_
  clear hK' K' nnz3 bz4
  go_frame
  refine ls_ex (some 10) (.int .i64 0) rfl rfl (exec_assign _ rfl (.int .i64 0) rfl) ?_
  go_frame
  refine ls_ex (some 11) (.int .i64 0) rfl rfl (exec_assign _ rfl (.int .i64 0) rfl) ?_
  go_frame
  refine wpList_nil ?_
  go_upto_region 1 with (fail)
  refine wp_region_lit ?_
  refine ls_ex (some 12) (.agg #[.int .i64 p, .int .i64 n, .int .i64 m, .int .i64 k, .slice A ts.length c]) rfl rfl (exec_load_all 33 _ rfl w.heap.size rfl _ _ _ hz5 Try.underlying33 rfl 5 (by kernel_rfl) rfl) ?_
  go_frame
  refine ls_op rfl (fun K' hK' => ?_)
  have lz8 := hB.size
  have lz9 := hz5.lt
  refine wp_call1 (some 13) rfl 29 _ _ rfl (fun args w => by kernel_rfl) _ rfl _ (implIsBorder_c p n m k A c ts _ (hR.keep hB) hlen) (fun e Wz6 h => ?_)
  obtain ⟨rfl, bz7⟩ := h
  replace hB := below_after hB bz7
  replace hz5 := hz5.after bz7
  rw [Hs.out]
  clear bz7
  refine ⟨_, rfl, ?_⟩
  refine hK' _ _ ?_
  clear hK' K'
  go_frame
  refine ls_ex (some 14) (.bool false) rfl rfl (exec_not _ _ rfl true rfl) ?_
  go_frame
  refine wpList_nil ?_
  go_upto_region 3 with (fail)
  refine wp_region_lit ?_
  refine ls_ex (some 15) (.agg #[.int .i64 p, .int .i64 n, .int .i64 m, .int .i64 k, .slice A ts.length c]) rfl rfl (exec_load_all 33 _ rfl w.heap.size rfl _ _ _ hz5 Try.underlying33 rfl 5 (by kernel_rfl) rfl) ?_
  go_frame
  refine ls_op rfl (fun K' hK' => ?_)
  have lz12 := hB.size
  have lz13 := hz5.lt
  refine wp_call2 (some 16) rfl 33 _ _ _ rfl (fun args w => by kernel_rfl) _ _ rfl rfl _ (schemeLike_c p n m k A none ts.length c 0 0 _) (fun e Wz10 h => ?_)
  obtain ⟨rfl, bz11⟩ := h
  replace hB := below_after hB bz11
  replace hz5 := hz5.after bz11
  clear bz11
  refine ⟨_, rfl, ?_⟩
  refine hK' _ _ ?_
  clear hK' K'
  go_frame
  refine ls_ex (some 17) (.int .i64 x) rfl rfl (exec_move _ rfl (.int .i64 x) rfl) ?_
  go_frame
  refine ls_ex (some 18) (.int .i64 y) rfl rfl (exec_move _ rfl (.int .i64 y) rfl) ?_
  go_frame
  refine ls_ex (some 19) (.int .i64 z) rfl rfl (exec_move _ rfl (.int .i64 z) rfl) ?_
  go_frame
  refine ls_op rfl (fun K' hK' => ?_)
  have lz16 := hB.size
  have lz17 := hz5.lt
  refine wp_call4 (some 20) rfl 46 _ _ _ _ _ rfl (fun args w => by kernel_rfl) _ _ _ _ rfl rfl rfl rfl _ (isEquation_c p n m k x y z (.slice none 0 0) _ Hpr.out.2.1 Hpr.out.2.2.1 Hpr.out.2.2.2) (fun e Wz14 h => ?_)
  obtain ⟨rfl, bz15⟩ := h
  replace hB := below_after hB bz15
  replace hz5 := hz5.after bz15
  rw [He.out]
  clear bz15
  refine ⟨_, rfl, ?_⟩
  refine hK' _ _ ?_
  clear hK' K'
  go_frame
  refine ls_ex (some 21) (.bool true) rfl rfl (exec_not _ _ rfl false rfl) ?_
  go_frame
  refine ls_ex (some 22) (.bool true) rfl rfl (exec_move _ rfl (.bool true) rfl) ?_
  go_frame
  refine ls_skip_g (some 23) rfl rfl ?_
  go_frame
  refine ls_skip_g (some 24) rfl rfl ?_
  go_frame
  refine ls_skip_g (some 25) rfl rfl ?_
  go_frame
  refine ls_ex (some 26) (.bool true) rfl rfl (exec_pick _ _ _ rfl true rfl (.bool true) rfl) ?_
  go_frame
  refine wpList_nil ?_
  go_upto_region 4 with (fail)
  refine wp_region_lit ?_
  refine ls_ex (some 10) (.int .i64 0) rfl rfl (exec_assign _ rfl (.int .i64 0) rfl) ?_
  go_frame
  refine ls_ex (some 11) (.int .i64 2) rfl rfl (exec_assign _ rfl (.int .i64 2) rfl) ?_
  go_frame
  refine wpList_nil ?_
  go_wp2_with fail
  go_ret2
  exact ⟨by rw [HC.out]; rfl, hB⟩
set_option maxHeartbeats 4000000 in
theorem implCf_c (p n m k : Int) (A : Option Addr) (c : Nat) (ts : List (List Nat)) (x y z h : Int) (w : World) (hR : RdT w A ts) (hlen : ts.length ≤ 1048576) (hs : borderB p n m k ts = true) (he : eqnB n m k x y z = true) (hh : (decide (0 ≤ h) && decide (h ≤ 9)) = false) :
    Calls Try.prog 21 #[.agg #[.int .i64 p, .int .i64 n, .int .i64 m, .int .i64 k, .slice A ts.length c], .int .i64 x, .int .i64 y, .int .i64 z, .int .i64 h] w (fun e w' => e = .returned (.tuple #[.int .i64 (ifZ (cfCode p n m k ts x y z h) (cfI p ts x y z h)), .int .i64 (cfCode p n m k ts x y z h)]) ∧ Below w.heap.size w w') := by
  have hB := Below.refl w.heap.size w
  have hl30 := (borderB_all hs).2.1
  have Hpr := Lib.hid (sizesB_parts (borderB_all hs).1)
  have hp5 := primeB_b2 Hpr.out.1
  have HC : Hid (cfCode p n m k ts x y z h = 2) := Lib.hid (by unfold cfCode cfOk; rw [hs, hh]; simp)
  have Hh := Lib.hid hh
  clear hh
  have Hs := Lib.hid hs
  have He := Lib.hid he
  clear hs he
  
  go_enter Try.func21, Try.ntmps21
  go_upto_region 0 with (fail)
  refine wp_region_lit ?_
  refine ls_op rfl (fun K' hK' => ?_)
  have lz1 := hB.size
  refine wp_new (some 5) rfl (exec_box 33 _ rfl (#[.int .i64 p, .int .i64 n, .int .i64 m, .int .i64 k, .slice A ts.length c]) rfl) (fun Wz2 nnz3 => ?_)
  have bz4 := nnz3.below (Below.refl _ _) (Nat.le_refl _)
  replace hB := below_after hB bz4
  have hz5 : At Wz2 w.heap.size (.cells #[.int .i64 p, .int .i64 n, .int .i64 m, .int .i64 k, .slice A ts.length c] 33 (0, 0)) := nnz3.at_
  refine hK' _ _ ?_
  clear hK' K' nnz3 bz4
  go_frame
  refine ls_ex (some 10) (.int .i64 0) rfl rfl (exec_assign _ rfl (.int .i64 0) rfl) ?_
  go_frame
  refine ls_ex (some 11) (.int .i64 0) rfl rfl (exec_assign _ rfl (.int .i64 0) rfl) ?_
  go_frame
  refine wpList_nil ?_
  go_upto_region 1 with (fail)
  refine wp_region_lit ?_
  refine ls_ex (some 12) (.agg #[.int .i64 p, .int .i64 n, .int .i64 m, .int .i64 k, .slice A ts.length c]) rfl rfl (exec_load_all 33 _ rfl w.heap.size rfl _ _ _ hz5 Try.underlying33 rfl 5 (by kernel_rfl) rfl) ?_
  go_frame
  refine ls_op rfl (fun K' hK' => ?_)
  have lz8 := hB.size
  have lz9 := hz5.lt
  refine wp_call1 (some 13) rfl 29 _ _ rfl (fun args w => by kernel_rfl) _ rfl _ (implIsBorder_c p n m k A c ts _ (hR.keep hB) hlen) (fun e Wz6 h => ?_)
  obtain ⟨rfl, bz7⟩ := h
  replace hB := below_after hB bz7
  replace hz5 := hz5.after bz7
  rw [Hs.out]
  clear bz7
  refine ⟨_, rfl, ?_⟩
  refine hK' _ _ ?_
  clear hK' K'
  go_frame
  refine ls_ex (some 14) (.bool false) rfl rfl (exec_not _ _ rfl true rfl) ?_
  go_frame
  refine wpList_nil ?_
  go_upto_region 3 with (fail)
  refine wp_region_lit ?_
  refine ls_ex (some 15) (.agg #[.int .i64 p, .int .i64 n, .int .i64 m, .int .i64 k, .slice A ts.length c]) rfl rfl (exec_load_all 33 _ rfl w.heap.size rfl _ _ _ hz5 Try.underlying33 rfl 5 (by kernel_rfl) rfl) ?_
  go_frame
  refine ls_op rfl (fun K' hK' => ?_)
  have lz12 := hB.size
  have lz13 := hz5.lt
  refine wp_call2 (some 16) rfl 33 _ _ _ rfl (fun args w => by kernel_rfl) _ _ rfl rfl _ (schemeLike_c p n m k A none ts.length c 0 0 _) (fun e Wz10 h => ?_)
  obtain ⟨rfl, bz11⟩ := h
  replace hB := below_after hB bz11
  replace hz5 := hz5.after bz11
  clear bz11
  refine ⟨_, rfl, ?_⟩
  refine hK' _ _ ?_
  clear hK' K'
  go_frame
  refine ls_ex (some 17) (.int .i64 x) rfl rfl (exec_move _ rfl (.int .i64 x) rfl) ?_
  go_frame
  refine ls_ex (some 18) (.int .i64 y) rfl rfl (exec_move _ rfl (.int .i64 y) rfl) ?_
  go_frame
  refine ls_ex (some 19) (.int .i64 z) rfl rfl (exec_move _ rfl (.int .i64 z) rfl) ?_
  go_frame
  refine ls_op rfl (fun K' hK' => ?_)
  have lz16 := hB.size
  have lz17 := hz5.lt
  refine wp_call4 (some 20) rfl 46 _ _ _ _ _ rfl (fun args w => by kernel_rfl) _ _ _ _ rfl rfl rfl rfl _ (isEquation_c p n m k x y z (.slice none 0 0) _ Hpr.out.2.1 Hpr.out.2.2.1 Hpr.out.2.2.2) (fun e Wz14 h => ?_)
  obtain ⟨rfl, bz15⟩ := h
  replace hB := below_after hB bz15
  replace hz5 := hz5.after bz15
  rw [He.out]
  clear bz15
  refine ⟨_, rfl, ?_⟩
  refine hK' _ _ ?_
  clear hK' K'
  go_frame
  refine ls_ex (some 21) (.bool false) rfl rfl (exec_not _ _ rfl true rfl) ?_
  go_frame
  refine ls_ex (some 22) (.bool false) rfl rfl (exec_move _ rfl (.bool false) rfl) ?_
  go_frame
  refine ls_ex_g (some 23) (.int .i64 h) rfl rfl (exec_move _ rfl (.int .i64 h) rfl) ?_
  go_frame
  refine ls_op_g rfl (fun K' hK' => ?_)
  have lz20 := hB.size
  have lz21 := hz5.lt
  refine wp_call1 (some 24) rfl 42 _ _ rfl (fun args w => by kernel_rfl) _ rfl _ (isPower_c h _) (fun e Wz18 h => ?_)
  obtain ⟨rfl, rfl⟩ := h
  rw [Hh.out]
  refine ⟨_, rfl, ?_⟩
  refine hK' _ _ ?_
  clear hK' K'
  go_frame
  refine ls_ex_g (some 25) (.bool true) rfl rfl (exec_not _ _ rfl false rfl) ?_
  go_frame
  refine ls_ex (some 26) (.bool true) rfl rfl (exec_pick _ _ _ rfl false rfl (.bool true) rfl) ?_
  go_frame
  refine wpList_nil ?_
  go_upto_region 4 with (fail)
  refine wp_region_lit ?_
  refine ls_ex (some 10) (.int .i64 0) rfl rfl (exec_assign _ rfl (.int .i64 0) rfl) ?_
  go_frame
  refine ls_ex (some 11) (.int .i64 2) rfl rfl (exec_assign _ rfl (.int .i64 2) rfl) ?_
  go_frame
  refine wpList_nil ?_
  go_wp2_with fail
  go_ret2
  exact ⟨by rw [HC.out]; rfl, hB⟩
set_option maxHeartbeats 12800000 in
theorem implCf_v (p n m k : Int) (A : Option Addr) (c : Nat) (ts : List (List Nat)) (x y z h : Nat) (w : World) (hR : RdT w A ts) (hlen : ts.length ≤ 1048576) (hs : borderB p n m k ts = true) (he : eqnB n m k (x : Int) (y : Int) (z : Int) = true) (hx : x < 9) (hy : y < 9) (hz : z < 9) (h9 : h ≤ 9) :
    Calls Try.prog 21 #[.agg #[.int .i64 p, .int .i64 n, .int .i64 m, .int .i64 k, .slice A ts.length c], .int .i64 (x : Int), .int .i64 (y : Int), .int .i64 (z : Int), .int .i64 (h : Int)] w (fun e w' => e = .returned (.tuple #[.int .i64 (ifZ (cfCode p n m k ts (x : Int) (y : Int) (z : Int) (h : Int)) (cfI p ts (x : Int) (y : Int) (z : Int) (h : Int))), .int .i64 (cfCode p n m k ts (x : Int) (y : Int) (z : Int) (h : Int))]) ∧ Below w.heap.size w w') := by
  have hB := Below.refl w.heap.size w
  have hl30 := (borderB_all hs).2.1
  have Hpr := Lib.hid (sizesB_parts (borderB_all hs).1)
  have hp5 := primeB_b2 Hpr.out.1
  have hh : (decide (0 ≤ (h : Int)) && decide ((h : Int) ≤ 9)) = true := by rw [decide_eq_true (show (0 : Int) ≤ h by omega), decide_eq_true (show (h : Int) ≤ 9 by omega)]; rfl
  have HC : Hid (cfCode p n m k ts x y z h = 0) := Lib.hid (by unfold cfCode cfOk; rw [hs, hh]; unfold eqnB at he; rw [he]; rfl)
  have Hh := Lib.hid hh
  clear hh
  have Hs := Lib.hid hs
  have He := Lib.hid he
  clear hs he
  have Hle : Hid ((exL h ts).length ≤ 1000000) := Lib.hid (by have := (cf_le2 hR.good hl30 h x y z).1; omega)
  obtain ⟨L9, hL9⟩ : ∃ L, sidesL p.toNat (exL h ts) x y = L := ⟨_, rfl⟩
  have HL9 := Lib.hid hL9
  obtain ⟨V9, hV9⟩ : ∃ V, sumN (exL h ts) x y z % p.toNat = V := ⟨_, rfl⟩
  have hV256 : V9 < 256 := by rw [← hV9]; have := Nat.mod_lt (sumN (exL h ts) x y z) (show 0 < p.toNat by omega); omega
  have HLl : Hid (L9.length = 9) := Lib.hid (by rw [← hL9]; exact (sidesL_bytes _ _ _ (by omega) (by omega)).len)
  have HLz : Hid (L9[z]?.getD 0 = V9) := Lib.hid (by rw [← hL9, sidesL_get _ _ _ _ hz, hV9])
  have HV : Hid (cfI p ts (x : Int) (y : Int) (z : Int) (h : Int) = (V9 : Int)) := Lib.hid (by unfold cfI; rw [Int.toNat_natCast, Int.toNat_natCast, Int.toNat_natCast, Int.toNat_natCast, hV9])
  clear hL9 hV9
  
  go_enter Try.func21, Try.ntmps21
  go_upto_region 0 with (fail)
  refine wp_region_lit ?_
  refine ls_op rfl (fun K' hK' => ?_)
  have lz1 := hB.size
  refine wp_new (some 5) rfl (exec_box 33 _ rfl (#[.int .i64 p, .int .i64 n, .int .i64 m, .int .i64 k, .slice A ts.length c]) rfl) (fun Wz2 nnz3 => ?_)
  have bz4 := nnz3.below (Below.refl _ _) (Nat.le_refl _)
  replace hB := below_after hB bz4
  have hz5 : At Wz2 w.heap.size (.cells #[.int .i64 p, .int .i64 n, .int .i64 m, .int .i64 k, .slice A ts.length c] 33 (0, 0)) := nnz3.at_
  refine hK' _ _ ?_
  clear hK' K' nnz3 bz4
  go_frame
  refine ls_ex (some 10) (.int .i64 0) rfl rfl (exec_assign _ rfl (.int .i64 0) rfl) ?_
  go_frame
  refine ls_ex (some 11) (.int .i64 0) rfl rfl (exec_assign _ rfl (.int .i64 0) rfl) ?_
  go_frame
  refine wpList_nil ?_
  go_upto_region 1 with (fail)
  refine wp_region_lit ?_
  refine ls_ex (some 12) (.agg #[.int .i64 p, .int .i64 n, .int .i64 m, .int .i64 k, .slice A ts.length c]) rfl rfl (exec_load_all 33 _ rfl w.heap.size rfl _ _ _ hz5 Try.underlying33 rfl 5 (by kernel_rfl) rfl) ?_
  go_frame
  refine ls_op rfl (fun K' hK' => ?_)
  have lz8 := hB.size
  have lz9 := hz5.lt
  refine wp_call1 (some 13) rfl 29 _ _ rfl (fun args w => by kernel_rfl) _ rfl _ (implIsBorder_c p n m k A c ts _ (hR.keep hB) hlen) (fun e Wz6 h => ?_)
  obtain ⟨rfl, bz7⟩ := h
  replace hB := below_after hB bz7
  replace hz5 := hz5.after bz7
  rw [Hs.out]
  clear bz7
  refine ⟨_, rfl, ?_⟩
  refine hK' _ _ ?_
  clear hK' K'
  go_frame
  refine ls_ex (some 14) (.bool false) rfl rfl (exec_not _ _ rfl true rfl) ?_
  go_frame
  refine wpList_nil ?_
  go_upto_region 3 with (fail)
  refine wp_region_lit ?_
  refine ls_ex (some 15) (.agg #[.int .i64 p, .int .i64 n, .int .i64 m, .int .i64 k, .slice A ts.length c]) rfl rfl (exec_load_all 33 _ rfl w.heap.size rfl _ _ _ hz5 Try.underlying33 rfl 5 (by kernel_rfl) rfl) ?_
  go_frame
  refine ls_op rfl (fun K' hK' => ?_)
  have lz12 := hB.size
  have lz13 := hz5.lt
  refine wp_call2 (some 16) rfl 33 _ _ _ rfl (fun args w => by kernel_rfl) _ _ rfl rfl _ (schemeLike_c p n m k A none ts.length c 0 0 _) (fun e Wz10 h => ?_)
  obtain ⟨rfl, bz11⟩ := h
  replace hB := below_after hB bz11
  replace hz5 := hz5.after bz11
  clear bz11
  refine ⟨_, rfl, ?_⟩
  refine hK' _ _ ?_
  clear hK' K'
  go_frame
  refine ls_ex (some 17) (.int .i64 x) rfl rfl (exec_move _ rfl (.int .i64 x) rfl) ?_
  go_frame
  refine ls_ex (some 18) (.int .i64 y) rfl rfl (exec_move _ rfl (.int .i64 y) rfl) ?_
  go_frame
  refine ls_ex (some 19) (.int .i64 z) rfl rfl (exec_move _ rfl (.int .i64 z) rfl) ?_
  go_frame
  refine ls_op rfl (fun K' hK' => ?_)
  have lz16 := hB.size
  have lz17 := hz5.lt
  refine wp_call4 (some 20) rfl 46 _ _ _ _ _ rfl (fun args w => by kernel_rfl) _ _ _ _ rfl rfl rfl rfl _ (isEquation_c p n m k x y z (.slice none 0 0) _ Hpr.out.2.1 Hpr.out.2.2.1 Hpr.out.2.2.2) (fun e Wz14 h => ?_)
  obtain ⟨rfl, bz15⟩ := h
  replace hB := below_after hB bz15
  replace hz5 := hz5.after bz15
  rw [He.out]
  clear bz15
  refine ⟨_, rfl, ?_⟩
  refine hK' _ _ ?_
  clear hK' K'
  go_frame
  refine ls_ex (some 21) (.bool false) rfl rfl (exec_not _ _ rfl true rfl) ?_
  go_frame
  refine ls_ex (some 22) (.bool false) rfl rfl (exec_move _ rfl (.bool false) rfl) ?_
  go_frame
  refine ls_ex_g (some 23) (.int .i64 h) rfl rfl (exec_move _ rfl (.int .i64 h) rfl) ?_
  go_frame
  refine ls_op_g rfl (fun K' hK' => ?_)
  have lz20 := hB.size
  have lz21 := hz5.lt
  refine wp_call1 (some 24) rfl 42 _ _ rfl (fun args w => by kernel_rfl) _ rfl _ (isPower_c h _) (fun e Wz18 h => ?_)
  obtain ⟨rfl, rfl⟩ := h
  rw [Hh.out]
  refine ⟨_, rfl, ?_⟩
  refine hK' _ _ ?_
  clear hK' K'
  go_frame
  refine ls_ex_g (some 25) (.bool false) rfl rfl (exec_not _ _ rfl true rfl) ?_
  go_frame
  refine ls_ex (some 26) (.bool false) rfl rfl (exec_pick _ _ _ rfl false rfl (.bool false) rfl) ?_
  go_frame
  refine wpList_nil ?_
  go_upto_region 5 with (fail)
  refine wp_region_lit ?_
  refine ls_ex (some 27) (.agg #[.int .i64 p, .int .i64 n, .int .i64 m, .int .i64 k, .slice A ts.length c]) rfl rfl (exec_load_all 33 _ rfl w.heap.size rfl _ _ _ hz5 Try.underlying33 rfl 5 (by kernel_rfl) rfl) ?_
  go_frame
  refine ls_ex (some 28) (.int .i64 h) rfl rfl (exec_move _ rfl (.int .i64 h) rfl) ?_
  go_frame
  refine ls_op rfl (fun K' hK' => ?_)
  have lz24 := hB.size
  have lz25 := hz5.lt
  refine wp_call2 (some 29) rfl 43 _ _ _ rfl (fun args w => by kernel_rfl) _ _ rfl rfl _ (exactOf_c p n m k A c ts h h9 _ (hR.keep hB) hl30) (fun e Wz22 h => ?_)
  obtain ⟨v6, rfl, ho6, bz23⟩ := h
  replace hB := below_after hB bz23
  replace hz5 := hz5.after bz23
  obtain ⟨A6, c6, rfl, hr6, hc6⟩ := ho6.rdc' (exL_bytes hR.good h)
  clear ho6
  clear bz23
  refine ⟨_, rfl, ?_⟩
  refine hK' _ _ ?_
  clear hK' K'
  go_frame
  refine ls_ex (some 30) (.int .i64 x) rfl rfl (exec_move _ rfl (.int .i64 x) rfl) ?_
  go_frame
  refine ls_ex (some 31) (.int .i64 y) rfl rfl (exec_move _ rfl (.int .i64 y) rfl) ?_
  go_frame
  refine ls_op rfl (fun K' hK' => ?_)
  have lz28 := hB.size
  have lz29 := hz5.lt
  refine wp_call3 (some 32) rfl 47 _ _ _ _ rfl (fun args w => by kernel_rfl) _ _ _ rfl rfl rfl _ (leftI_c p n m k A6 c6 (exL h ts) x y _ hp5 hr6 Hle.out hx hy) (fun e Wz26 h => ?_)
  obtain ⟨rfl, bz27⟩ := h
  replace hB := below_after hB bz27
  replace hz5 := hz5.after bz27
  replace hr6 := hr6.keep bz27
  rw [HL9.out]
  clear bz27
  refine ⟨_, rfl, ?_⟩
  refine hK' _ _ ?_
  clear hK' K'
  go_frame
  refine ls_ex (some 33) (.int .i64 z) rfl rfl (exec_move _ rfl (.int .i64 z) rfl) ?_
  go_frame
  refine ls_ex (some 34) (.int .u8 (V9 : Nat)) rfl rfl (exec_index_u8v _ _ rfl z V9 L9 rfl rfl HLl.out hz HLz.out) ?_
  go_frame
  refine ls_ex (some 35) (.int .i64 (V9 : Int)) rfl rfl (exec_conv _ rfl V9 rfl hV256) ?_
  go_frame
  refine ls_ex (some 10) (.int .i64 (V9 : Int)) rfl rfl (exec_assign _ rfl (.int .i64 (V9 : Int)) rfl) ?_
  go_frame
  refine ls_ex (some 11) (.int .i64 0) rfl rfl (exec_assign _ rfl (.int .i64 0) rfl) ?_
  go_frame
  refine wpList_nil ?_
  go_wp2_with fail
  go_ret2
  exact ⟨by rw [HC.out, HV.out]; rfl, hB⟩
theorem specCoefficientAt_c (p n m k : Int) (A : Option Addr) (c : Nat) (ts : List (List Nat)) (x y z h : Int) (w : World) (hR : RdT w A ts) (hlen : ts.length ≤ 1048576) : Calls Try.prog 20 #[.agg #[.int .i64 p, .int .i64 n, .int .i64 m, .int .i64 k, .slice A ts.length c], .int .i64 x, .int .i64 y, .int .i64 z, .int .i64 h] w (fun e w' => e = .returned (.tuple #[.int .i64 (ifZ (cfCode p n m k ts x y z h) (cfI p ts x y z h)), .int .i64 (cfCode p n m k ts x y z h)]) ∧ Below w.heap.size w w') := by
  cases hs : borderB p n m k ts with
  | false => exact specCf_a p n m k A c ts x y z h w hR hlen hs
  | true =>
    cases hix : inB x (n * m) with
    | false => exact specCf_x p n m k A c ts x y z h w hR hlen hs hix
    | true =>
      cases hiy : inB y (m * k) with
      | false => exact specCf_y p n m k A c ts x y z h w hR hlen hs hix hiy
      | true =>
        cases hiz : inB z (n * k) with
        | false => exact specCf_z p n m k A c ts x y z h w hR hlen hs hix hiy hiz
        | true =>
          cases hh : (decide (0 ≤ h) && decide (h ≤ 9)) with
          | false => exact specCf_h p n m k A c ts x y z h w hR hlen hs hix hiy hiz hh
          | true =>
            have h1 := hix
            have h2 := hiy
            have h3 := hiz
            simp only [inB, Bool.and_eq_true, decide_eq_true_eq] at h1 h2 h3 hh
            obtain ⟨x, rfl⟩ : ∃ v : Nat, x = (v : Int) := ⟨x.toNat, by omega⟩
            obtain ⟨y, rfl⟩ : ∃ v : Nat, y = (v : Int) := ⟨y.toNat, by omega⟩
            obtain ⟨z, rfl⟩ : ∃ v : Nat, z = (v : Int) := ⟨z.toNat, by omega⟩
            obtain ⟨h, rfl⟩ : ∃ v : Nat, h = (v : Int) := ⟨h.toNat, by omega⟩
            exact specCf_v p n m k A c ts x y z h w hR hlen hs hix hiy hiz (by omega)
theorem implCoefficientAt_c (p n m k : Int) (A : Option Addr) (c : Nat) (ts : List (List Nat)) (x y z h : Int) (w : World) (hR : RdT w A ts) (hlen : ts.length ≤ 1048576) : Calls Try.prog 21 #[.agg #[.int .i64 p, .int .i64 n, .int .i64 m, .int .i64 k, .slice A ts.length c], .int .i64 x, .int .i64 y, .int .i64 z, .int .i64 h] w (fun e w' => e = .returned (.tuple #[.int .i64 (ifZ (cfCode p n m k ts x y z h) (cfI p ts x y z h)), .int .i64 (cfCode p n m k ts x y z h)]) ∧ Below w.heap.size w w') := by
  cases hs : borderB p n m k ts with
  | false => exact implCf_a p n m k A c ts x y z h w hR hlen hs
  | true =>
    cases he : eqnB n m k x y z with
    | false => exact implCf_b p n m k A c ts x y z h w hR hlen hs he
    | true =>
      cases hh : (decide (0 ≤ h) && decide (h ≤ 9)) with
      | false => exact implCf_c p n m k A c ts x y z h w hR hlen hs he hh
      | true =>
        have hbs := eqnB_bounds he
        have hml := sizesB_mul (borderB_all hs).1
        simp only [Bool.and_eq_true, decide_eq_true_eq] at hh
        obtain ⟨x, rfl⟩ : ∃ v : Nat, x = (v : Int) := ⟨x.toNat, by omega⟩
        obtain ⟨y, rfl⟩ : ∃ v : Nat, y = (v : Int) := ⟨y.toNat, by omega⟩
        obtain ⟨z, rfl⟩ : ∃ v : Nat, z = (v : Int) := ⟨z.toNat, by omega⟩
        obtain ⟨h, rfl⟩ : ∃ v : Nat, h = (v : Int) := ⟨h.toNat, by omega⟩
        exact implCf_v p n m k A c ts x y z h w hR hlen hs he (by omega) (by omega) (by omega) (by omega)
theorem lawCoefficientAt (xp xn xm xk : Int) (xA : Option Addr) (xc : Nat) (xq : List (List Nat)) (y : Int) (z : Int) (u : Int) (v : Int) (w : World) (hr_x : RdT w xA xq) (hn_x : xq.length ≤ 9223372036854775807) :
    Calls Try.prog 6 #[.agg #[.int .i64 xp, .int .i64 xn, .int .i64 xm, .int .i64 xk, .slice xA xq.length xc], .int .i64 y, .int .i64 z, .int .i64 u, .int .i64 v] w fun e w' => e = .returned (.bool true) ∧ Below w.heap.size w w' :=
  lawCoefficientAt_walk xp xn xm xk xA xc xq y z u v _ _ w hr_x hn_x  (fun t_x _g_x w h_x => specCoefficientAt_c xp xn xm xk _ _ xq y z u v w h_x t_x) (fun t_x _g_x w h_x => implCoefficientAt_c xp xn xm xk _ _ xq y z u v w h_x t_x)
end Go.Proofs.Ytnlidegmllcdhaa
