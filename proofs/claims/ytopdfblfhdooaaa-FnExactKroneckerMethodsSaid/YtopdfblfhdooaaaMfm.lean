/-
  impl.multipliedForm: the product of two forms.
-/
import Derived.Test.YtopdfblfhdooaaaMf0
import Derived.Test.YtopdfblfhdooaaaTr2
import Derived.Test.YtopdfblfhdooaaaNrm0
import Derived.BigQuiet
namespace Go.Proofs.Ytopdfblfhdooaaa
open Go.RowKit
set_option maxRecDepth 100000
section
variable {P : Program} {ops : Array Oper} {rest : List Oper} {a : Act} {w : World} {Q : Exit → Act → World → Prop}
theorem wpList_abs5m {A B C D E : Obj} (h : ∀ W : World, Sz W (w.heap.size + 1 + 1 + 1 + 1 + 1) → Below w.heap.size w W → At W w.heap.size A → At W (w.heap.size + 1) B → At W (w.heap.size + 1 + 1) C → At W (w.heap.size + 1 + 1 + 1) D → At W (w.heap.size + 1 + 1 + 1 + 1) E → wpList P ops Q rest a W) :
    wpList P ops Q rest a (((((w.alloc A).alloc B).alloc C).alloc D).alloc E) := by
  have hb := below1 ((((w.alloc A).alloc B).alloc C).alloc D) E
  have hs : ((((w.alloc A).alloc B).alloc C).alloc D).heap.size = w.heap.size + 1 + 1 + 1 + 1 := by rw [size_al1, size_al3]
  have hE := al1_0 ((((w.alloc A).alloc B).alloc C).alloc D) E
  rw [hs] at hE
  exact h _ (by unfold Sz; rw [size_al1, hs]) (below_after (below4 _ _ _ _ _) hb) (At.after (al4_0 _ _ _ _ _) hb) (At.after (al4_1 _ _ _ _ _) hb) (At.after (al4_2 _ _ _ _ _) hb) (At.after (al4_3 _ _ _ _ _) hb) hE
end
def MmRel (w : World) (f g : List Nat) (r1 c1 r2 c2 : Nat) (F : List Nat) (wr : World) : Prop :=
  Below w.heap.size w wr ∧ At wr w.heap.size (.cells (u8s f) 51 (0, 0)) ∧ At wr (w.heap.size + 1) (.cells #[.int .i64 r1, .int .i64 c1] 74 (0, 0)) ∧ At wr (w.heap.size + 1 + 1) (.cells (u8s g) 51 (0, 0)) ∧ At wr (w.heap.size + 1 + 1 + 1) (.cells #[.int .i64 r2, .int .i64 c2] 74 (0, 0)) ∧ At wr (w.heap.size + 1 + 1 + 1 + 1) (.cells (u8s (List.replicate 9 0)) 51 (0, 0)) ∧ At wr (w.heap.size + 1 + 1 + 1 + 1 + 1) (.cells (u8s F) 5 (0, 0))
theorem idxK_parts {c1 c2 r2 a b q1 q2 m1 m2 : Nat} (h1 : a / c1 = q1) (h2 : b / c2 = q2) (h3 : a % c1 = m1) (h4 : b % c2 = m2) : idxK c1 c2 r2 a b = (q1 * r2 + q2) * c1 * c2 + (m1 * c2 + m2) := by
  subst h1 h2 h3 h4
  unfold idxK
  rw [Nat.mul_assoc]
theorem mm_put {w wr : World} {f g F G : List Nat} {r1 c1 r2 c2 u v k : Nat} (hB : Below w.heap.size w wr) (h0 : At wr w.heap.size (.cells (u8s f) 51 (0, 0))) (h1 : At wr (w.heap.size + 1) (.cells #[.int .i64 r1, .int .i64 c1] 74 (0, 0))) (h2 : At wr (w.heap.size + 1 + 1) (.cells (u8s g) 51 (0, 0))) (h3 : At wr (w.heap.size + 1 + 1 + 1) (.cells #[.int .i64 r2, .int .i64 c2] 74 (0, 0))) (h4 : At wr (w.heap.size + 1 + 1 + 1 + 1) (.cells (u8s (List.replicate 9 0)) 51 (0, 0))) (h5 : At wr (w.heap.size + 1 + 1 + 1 + 1 + 1) (.cells (u8s F) 5 (0, 0))) (hS : F.set u v = G) :
    MmRel w f g r1 c1 r2 c2 G ((wr.drewN k).setCell ⟨w.heap.size + 1 + 1 + 1 + 1 + 1, u, none⟩ (.int .u8 (v : Int))) := by
  have P := Put.set (i := u) (h5.drewN k) v
  rw [hS] at P
  exact ⟨P.below (below_drawn hB k) (by omega), P.other (h0.drewN k) (by omega), P.other (h1.drewN k) (by omega), P.other (h2.drewN k) (by omega), P.other (h3.drewN k) (by omega), P.other (h4.drewN k) (by omega), P.at_⟩
set_option maxHeartbeats 6400000 in
theorem multipliedForm_c (p r1 c1 r2 c2 : Nat) (f g : List Nat) (hf : Bytes 9 f) (hg : Bytes 9 g) (w : World) (hp : 2 ≤ p ∧ p ≤ 5) (hk : okK r1 c1 r2 c2 = true)
    (HP1 : Hid (∀ w : World, Calls Try.prog 86 #[.agg #[.int .i64 r1, .int .i64 c1]] w fun e w' => e = .returned (.int .i64 ((r1 * c1 : Nat) : Int)) ∧ Below w.heap.size w w'))
    (HP2 : Hid (∀ w : World, Calls Try.prog 86 #[.agg #[.int .i64 r2, .int .i64 c2]] w fun e w' => e = .returned (.int .i64 ((r2 * c2 : Nat) : Int)) ∧ Below w.heap.size w w')) :
    Calls Try.prog 66 #[.int .i64 p, .agg (u8s f), .agg #[.int .i64 r1, .int .i64 c1], .agg (u8s g), .agg #[.int .i64 r2, .int .i64 c2]] w fun e w' => e = .returned (.agg (u8s (mulF p r1 c1 r2 c2 f g))) ∧ Below w.heap.size w w' := by
  obtain ⟨k1, k2, k3, k4, k5⟩ := okK_le hk
  have hlen : (mulF p r1 c1 r2 c2 f g).length = 9 := mulF_len _ _ _ _ _ _ _
  have HZ : Hid (mulP p r1 c1 r2 c2 f g 0 = List.replicate 9 0) := Lib.hid (mulP_zero _ _ _ _ _ _ _)
  have HL : Hid (mulP p r1 c1 r2 c2 f g (r1 * c1 * (r2 * c2)) = mulF p r1 c1 r2 c2 f g) := Lib.hid (mulP_all hk f g)
  have HST := Lib.hid (fun (a b : Nat) (ha : a < r1 * c1) (hb : b < r2 * c2) => mulP_set (p := p) hk f g ha hb)
  have HID := Lib.hid (fun (a b : Nat) (ha : a < r1 * c1) (hb : b < r2 * c2) => (okK_ab hk ha hb).1)
  have u1 : r1 * 1 ≤ r1 * c1 := Nat.mul_le_mul_left _ k2
  have u2 : 1 * c1 ≤ r1 * c1 := Nat.mul_le_mul_right _ k1
  have u3 : r2 * 1 ≤ r2 * c2 := Nat.mul_le_mul_left _ k4
  have u4 : 1 * c2 ≤ r2 * c2 := Nat.mul_le_mul_right _ k3
  have v1 : r1 * c1 * 1 ≤ r1 * c1 * (r2 * c2) := Nat.mul_le_mul_left _ (by omega)
  have v2 : 1 * (r2 * c2) ≤ r1 * c1 * (r2 * c2) := Nat.mul_le_mul_right _ (by omega)
  obtain ⟨N1, hN1⟩ : ∃ n : Nat, r1 * c1 = n := ⟨_, rfl⟩
  obtain ⟨N2, hN2⟩ : ∃ n : Nat, r2 * c2 = n := ⟨_, rfl⟩
  rw [hN1, hN2] at HL
  rw [hN1, hN2] at HST HID k5 v1 v2
  rw [hN1] at HP1 u1 u2
  rw [hN2] at HP2 u3 u4
  have l1 : N1 ≤ 9 := by omega
  have l2 : N2 ≤ 9 := by omega
  have lr2 : r2 ≤ 9 := by omega
  have lc1 : c1 ≤ 9 := by omega
  have lc2 : c2 ≤ 9 := by omega
  clear v1 v2 u1 u2 u3 u4 hk
  go_enter Try.func66, Try.ntmps66
  go_wp2_with (first | (refine wpList_abs5m ?_; intro W hsz hB h0 h1 h2 h3 h4; have e3 : W.heap.size = w.heap.size + 1 + 1 + 1 + 1 + 1 := hsz) | (refine wpList_make_cells rfl _ _ 117 rfl 5 (.int .u8 0) 1 Try.underlying117 (by kernel_rfl) rfl 9 rfl rfl (by omega) (by omega) ?_; intro w1 n1; rw [e3]; have h5 := n1.at_; rw [e3] at h5; replace h0 := n1.old h0; replace h1 := n1.old h1; replace h2 := n1.old h2; replace h3 := n1.old h3; replace h4 := n1.old h4; replace hB := n1.below hB (by omega); clear n1) | (refine wpList_load_all rfl 74 _ rfl (w.heap.size + 1) rfl _ _ _ h1 Try.underlying74 rfl 2 (by kernel_rfl) rfl ?_))
  refine (HP1.out _).mono ?_
  rintro e w2 ⟨rfl, b2⟩
  replace h0 := h0.after b2
  replace h1 := h1.after b2
  replace h2 := h2.after b2
  replace h3 := h3.after b2
  replace h4 := h4.after b2
  replace h5 := h5.after b2
  replace hB := below_after hB b2
  replace h5 : At w2 (w.heap.size + 1 + 1 + 1 + 1 + 1) (.cells (u8s (mulP p r1 c1 r2 c2 f g 0)) 5 (0, 0)) := by rw [HZ.out]; exact h5
  clear b2 hsz e3
  go_wp2_with fail
  go_loopw [20] (fun i wr => ∃ a : Nat, a ≤ N1 ∧ i = .int .i64 a ∧ MmRel w f g r1 c1 r2 c2 (mulP p r1 c1 r2 c2 f g (a * N2)) wr) (fun i _ => N1 - (intOf i).toNat)
  case atStart => exact ⟨0, by omega, rfl, hB, h0, h1, h2, h3, h4, by rw [Nat.zero_mul]; exact h5⟩
  case round =>
    clear hB h0 h1 h2 h3 h4 h5
    obtain ⟨a, ha, rfl, hB, h0, h1, h2, h3, h4, h5⟩ := hrel
    by_cases hlt : a < N1
    · obtain ⟨wa, rfl⟩ : ∃ wa : World, wa = wr := ⟨_, rfl⟩
      have e0 : IntKind.i64.wrap ((a : Int) + 1) = (a : Int) + 1 := IntWalk.i64_in _ (by omega)
      have hlti : (a : Int) < (N1 : Int) := by omega
      go_wp2_with (refine wpList_load_all rfl 74 _ rfl (w.heap.size + 1 + 1 + 1) rfl _ _ _ h3 Try.underlying74 rfl 2 (by kernel_rfl) rfl ?_)
      refine (HP2.out _).mono ?_
      rintro e w4 ⟨rfl, b4⟩
      replace h0 := h0.after b4
      replace h1 := h1.after b4
      replace h2 := h2.after b4
      replace h3 := h3.after b4
      replace h4 := h4.after b4
      replace h5 := h5.after b4
      replace hB := below_after hB b4
      clear b4
      go_wp2_with fail
      go_loopw [25] (fun i wr => ∃ b : Nat, b ≤ N2 ∧ i = .int .i64 b ∧ MmRel w f g r1 c1 r2 c2 (mulP p r1 c1 r2 c2 f g (a * N2 + b)) wr) (fun i _ => N2 - (intOf i).toNat)
      case atStart => exact ⟨0, by omega, rfl, hB, h0, h1, h2, h3, h4, h5⟩
      case round =>
        clear hB h0 h1 h2 h3 h4 h5
        obtain ⟨b, hb, rfl, hB, h0, h1, h2, h3, h4, h5⟩ := hrel
        by_cases hlb : b < N2
        · have f0 : IntKind.i64.wrap ((b : Int) + 1) = (b : Int) + 1 := IntWalk.i64_in _ (by omega)
          have hlbi : (b : Int) < (N2 : Int) := by omega
          have zc1 : ((c1 : Int) == 0) = false := by simp; omega
          have zc2 : ((c2 : Int) == 0) = false := by simp; omega
          have zp : ((p : Int) == 0) = false := by simp; omega
          have hc1 : (1 : Int) ≤ c1 := by omega
          have hc2 : (1 : Int) ≤ c2 := by omega
          have hpp : (1 : Int) ≤ p := by omega
          have x10 : wr.cell? ⟨w.heap.size + 1, 0, none⟩ = some (.int .i64 r1) := h1.at_ 0
          have x11 : wr.cell? ⟨w.heap.size + 1, 1, none⟩ = some (.int .i64 c1) := h1.at_ 1
          have x30 : wr.cell? ⟨w.heap.size + 1 + 1 + 1, 0, none⟩ = some (.int .i64 r2) := h3.at_ 0
          have x31 : wr.cell? ⟨w.heap.size + 1 + 1 + 1, 1, none⟩ = some (.int .i64 c2) := h3.at_ 1
          have HS := HST.out a b hlt hlb
          have hu9 := HID.out a b hlt hlb
          rw [idxK_parts rfl rfl rfl rfl] at HS hu9
          have d1 : a / c1 ≤ 9 := Nat.le_trans (Nat.div_le_self _ _) (by omega)
          have d2 : b / c2 ≤ 9 := Nat.le_trans (Nat.div_le_self _ _) (by omega)
          have d3 : a % c1 ≤ 9 := Nat.le_trans (Nat.mod_le _ _) (by omega)
          have d4 : b % c2 ≤ 9 := Nat.le_trans (Nat.mod_le _ _) (by omega)
          have q1 : Hid ((a : Int) / (c1 : Int) = ((a / c1 : Nat) : Int)) := Lib.hid rfl
          have q2 : Hid ((b : Int) / (c2 : Int) = ((b / c2 : Nat) : Int)) := Lib.hid rfl
          have q3 : Hid ((a : Int) % (c1 : Int) = ((a % c1 : Nat) : Int)) := Lib.hid rfl
          have q4 : Hid ((b : Int) % (c2 : Int) = ((b % c2 : Nat) : Int)) := Lib.hid rfl
          generalize a / c1 = da at *
          generalize b / c2 = db at *
          generalize a % c1 = ma at *
          generalize b % c2 = mb at *
          obtain ⟨y1, hy1⟩ : ∃ x, x = da * r2 := ⟨_, rfl⟩
          obtain ⟨y2, hy2⟩ : ∃ x, x = y1 + db := ⟨_, rfl⟩
          obtain ⟨y3, hy3⟩ : ∃ x, x = ma * c2 := ⟨_, rfl⟩
          obtain ⟨y4, hy4⟩ : ∃ x, x = y3 + mb := ⟨_, rfl⟩
          obtain ⟨y5, hy5⟩ : ∃ x, x = y2 * c1 := ⟨_, rfl⟩
          obtain ⟨y6, hy6⟩ : ∃ x, x = y5 * c2 := ⟨_, rfl⟩
          obtain ⟨u, hu⟩ : ∃ x, x = y6 + y4 := ⟨_, rfl⟩
          rw [← hy1, ← hy2, ← hy3, ← hy4, ← hy5, ← hy6, ← hu] at HS hu9
          have m1 : (y1 : Int) = (da : Int) * (r2 : Int) := by rw [hy1]; simp
          have m3 : (y3 : Int) = (ma : Int) * (c2 : Int) := by rw [hy3]; simp
          have m5 : (y5 : Int) = (y2 : Int) * (c1 : Int) := by rw [hy5]; simp
          have m6 : (y6 : Int) = (y5 : Int) * (c2 : Int) := by rw [hy6]; simp
          have b1 : y1 ≤ 81 := by rw [hy1]; exact Nat.mul_le_mul d1 lr2
          have b3 : y3 ≤ 81 := by rw [hy3]; exact Nat.mul_le_mul d3 lc2
          have b5 : y5 ≤ 90 * 9 := by rw [hy5]; exact Nat.mul_le_mul (by omega) lc1
          have b6 : y6 ≤ 810 * 9 := by rw [hy6]; exact Nat.mul_le_mul (by omega) lc2
          have hu9' : u < 9 := by omega
          have w1 : IntKind.i64.wrap ((a : Int) / (c1 : Int) * (r2 : Int)) = (y1 : Int) := by rw [q1.out, ← m1]; exact IntWalk.i64_in _ (by omega)
          have w2 : IntKind.i64.wrap ((y1 : Int) + (b : Int) / (c2 : Int)) = (y2 : Int) := by rw [q2.out, IntWalk.i64_in _ (by omega)]; omega
          have w3 : IntKind.i64.wrap ((a : Int) % (c1 : Int) * (c2 : Int)) = (y3 : Int) := by rw [q3.out, ← m3]; exact IntWalk.i64_in _ (by omega)
          have w4 : IntKind.i64.wrap ((y3 : Int) + (b : Int) % (c2 : Int)) = (y4 : Int) := by rw [q4.out, IntWalk.i64_in _ (by omega)]; omega
          have w5 : IntKind.i64.wrap ((y2 : Int) * (c1 : Int)) = (y5 : Int) := by rw [← m5]; exact IntWalk.i64_in _ (by omega)
          have w6 : IntKind.i64.wrap ((y5 : Int) * (c2 : Int)) = (y6 : Int) := by rw [← m6]; exact IntWalk.i64_in _ (by omega)
          have w7 : IntKind.i64.wrap ((y6 : Int) + (y4 : Int)) = (u : Int) := by rw [IntWalk.i64_in _ (by omega)]; omega
          have p1 : (a : Int) / (c1 : Int) ≤ 9 := by rw [q1.out]; omega
          have p2 : 0 ≤ (a : Int) / (c1 : Int) := by rw [q1.out]; omega
          have p3 : (b : Int) / (c2 : Int) ≤ 9 := by rw [q2.out]; omega
          have p4 : 0 ≤ (b : Int) / (c2 : Int) := by rw [q2.out]; omega
          have p5 : (a : Int) % (c1 : Int) ≤ 9 := by rw [q3.out]; omega
          have p6 : 0 ≤ (a : Int) % (c1 : Int) := by rw [q3.out]; omega
          have p7 : (b : Int) % (c2 : Int) ≤ 9 := by rw [q4.out]; omega
          have p8 : 0 ≤ (b : Int) % (c2 : Int) := by rw [q4.out]; omega
          have xf := h0.cell (i := a) (by rw [hf.len]; omega)
          have xg := h2.cell (i := b) (by rw [hg.len]; omega)
          have hx := hf.lt a
          have hy := hg.lt b
          have x5 := h5.cell (i := u) (by rw [mulP_len]; exact hu9')
          have z5 := h5.free u
          have i1 : (a : Int) < 9 := by omega
          have i2 : (b : Int) < 9 := by omega
          have i3 : (u : Int) < 9 := by omega
          clear hy1 hy2 hy3 hy4 hy5 hy6 hu m1 m3 m5 m6 b1 b3 b5 b6 hu9
          generalize mulP p r1 c1 r2 c2 f g (a * N2 + b) = F at *
          generalize F[u]?.getD 0 = fu at *
          generalize f[a]?.getD 0 = x at *
          generalize g[b]?.getD 0 = y at *
          obtain ⟨xy, hxy⟩ : ∃ t, t = x * y := ⟨_, rfl⟩
          have bxy : xy ≤ 255 * 255 := by rw [hxy]; exact Nat.mul_le_mul (by omega) (by omega)
          have mxy : (xy : Int) = (x : Int) * (y : Int) := by rw [hxy]; simp
          have w8 : IntKind.i64.wrap ((x : Int) * (y : Int)) = (xy : Int) := by rw [← mxy]; exact IntWalk.i64_in _ (by omega)
          obtain ⟨v, hv⟩ : ∃ t, t = xy % p := ⟨_, rfl⟩
          have bv : v < 5 := by rw [hv]; have := Nat.mod_lt xy (show 0 < p by omega); omega
          have w9 : Hid ((xy : Int) % (p : Int) = (v : Int)) := Lib.hid (by rw [hv]; rfl)
          have HS2 : Hid (F.set u v = mulP p r1 c1 r2 c2 f g (a * N2 + (b + 1))) := Lib.hid (by rw [← HS, hv, hxy])
          have p9 : (xy : Int) % (p : Int) ≤ 9 := by rw [w9.out]; omega
          have p10 : 0 ≤ (xy : Int) % (p : Int) := by rw [w9.out]; omega
          have w10 : (v : Int) % 256 = (v : Int) := by omega
          clear HS hxy mxy hv
          go_wp2_with fail
          go_quiet (fail)
          go_wp2_with fail
          go_quiet (fail)
          go_wp2_with fail
          go_quiet (fail)
          go_wp2_with fail
          rw [w9.out]
          exact ⟨⟨b + 1, by omega, by go_num, mm_put hB h0 h1 h2 h3 h4 h5 HS2.out⟩, by simp [intOf]; omega⟩
        · obtain rfl : b = N2 := by omega
          have hlbi : ¬ (b : Int) < (b : Int) := by omega
          go_wp2_with fail
          go_roundw
          case rel => exact ⟨a + 1, by omega, by go_num, hB, h0, h1, h2, h3, h4, by rw [Nat.succ_mul]; exact h5⟩
          case measure => simp [intOf]; omega
    · obtain rfl : a = N1 := by omega
      rw [HL.out] at h5
      have hlti : ¬ (a : Int) < (a : Int) := by omega
      go_wp2_with (first | (refine wpList_toArr rfl _ _ rfl _ _ _ rfl _ 9 Try.underlying51 (by omega) ?_) | (refine wpList_load_all rfl 51 _ rfl (w.heap.size + 1 + 1 + 1 + 1 + 1) rfl _ _ _ h5 Try.underlying51 rfl 9 (by kernel_rfl) ((u8s_size _).trans hlen) ?_) | (refine wpList_store_all rfl 51 _ _ rfl rfl (w.heap.size + 1 + 1 + 1 + 1) rfl _ rfl _ _ h4 9 (by kernel_rfl) ((u8s_size _).trans hlen) (by simp [u8s]) (u8s_one _) ?_; intro w3 p3))
      refine bodyPost_ret (results_at rfl _ _ (w.heap.size + 1 + 1 + 1 + 1) _ _ _ rfl p3.at_ Try.underlying51 rfl 9 (by kernel_rfl) ((u8s_size _).trans hlen)) rfl ?_
      exact ⟨rfl, p3.below hB (by omega)⟩
end Go.Proofs.Ytopdfblfhdooaaa
