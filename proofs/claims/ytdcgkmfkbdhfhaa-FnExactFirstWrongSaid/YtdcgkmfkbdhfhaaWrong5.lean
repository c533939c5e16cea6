/-
  impl.CountWrong.
-/
import Derived.Test.YtdcgkmfkbdhfhaaWrong4
namespace Go.Proofs.Ytdcgkmfkbdhfhaa
open Go.RowKit
set_option maxRecDepth 100000
structure KC (w : World) (p n m k : Int) (A : Option Addr) (len cap g : Nat) (wr : World) : Prop where
  below : Below w.heap.size w wr
  box : At wr w.heap.size (.cells #[.int .i64 p, .int .i64 n, .int .i64 m, .int .i64 k, .slice A len cap] 30 (0, 0))
  shp : At wr g (.cells #[.int .i64 n, .int .i64 m, .int .i64 m, .int .i64 k, .int .i64 n, .int .i64 k] 53 (0, 0))
section
variable {w wr w2 : World} {p n m k : Int} {A : Option Addr} {len cap g : Nat}
theorem KC.after (h : KC w p n m k A len cap g wr) (hb : Below wr.heap.size wr w2) : KC w p n m k A len cap g w2 := ⟨below_after h.below hb, h.box.after hb, h.shp.after hb⟩
theorem KC.drew (h : KC w p n m k A len cap g wr) : KC w p n m k A len cap g wr.drew := ⟨h.below.drew, h.box, h.shp⟩
theorem KC.c0 (h : KC w p n m k A len cap g wr) : wr.cell? ⟨w.heap.size, 0, none⟩ = some (.int .i64 p) := h.box.at_ 0
theorem KC.c1 (h : KC w p n m k A len cap g wr) : wr.cell? ⟨w.heap.size, 1, none⟩ = some (.int .i64 n) := h.box.at_ 1
theorem KC.c2 (h : KC w p n m k A len cap g wr) : wr.cell? ⟨w.heap.size, 2, none⟩ = some (.int .i64 m) := h.box.at_ 2
theorem KC.c3 (h : KC w p n m k A len cap g wr) : wr.cell? ⟨w.heap.size, 3, none⟩ = some (.int .i64 k) := h.box.at_ 3
theorem KC.c4 (h : KC w p n m k A len cap g wr) : wr.cell? ⟨w.heap.size, 4, none⟩ = some (.slice A len cap) := h.box.at_ 4
end
theorem leftSidesI_c (p n m k : Int) (A : Option Addr) (cap : Nat) (qs : List (List Nat)) (a b : Nat) (hp : 2 ≤ p ∧ p ≤ 5) (h30 : qs.length ≤ 30) (ha : a < 9) (hb : b < 9) (w : World) (hr : Rd w A qs) :
    Calls Try.prog 30 #[.agg #[.int .i64 p, .int .i64 n, .int .i64 m, .int .i64 k, .slice A qs.length cap], .int .i64 a, .int .i64 b] w fun e w' => e = .returned (.agg (u8s (sidesL p.toNat qs a b))) ∧ Below w.heap.size w w' := by
  have h := leftSides_c p.toNat n m k A cap qs a b w (by omega) (by omega) hr (Nat.le_trans h30 (by decide)) ha hb
  rw [show ((p.toNat : Nat) : Int) = p by omega] at h
  exact h
set_option maxHeartbeats 1600000 in
theorem implCountWrong_c (p n m k : Int) (A : Option Addr) (cap : Nat) (qs : List (List Nat)) (w : World) (hr : Rd w A qs) (hlen : qs.length ≤ 1048576) :
    Calls Try.prog 16 #[.agg #[.int .i64 p, .int .i64 n, .int .i64 m, .int .i64 k, .slice A qs.length cap]] w
      fun e w' => e = .returned (.tuple #[.int .i64 (cntI p n m k qs), .int .i64 (sCode p n m k qs)]) ∧ Below w.heap.size w w' := by
  cases hs : schemeB p n m k qs with
  | false =>
    have Hs := Lib.hid hs
    have Hc : Hid (cntI p n m k qs = 0 ∧ sCode p n m k qs = 1) := Lib.hid (by simp [cntI, sCode, hs])
    clear hs
    go_enter Try.func16, Try.ntmps16
    go_wp2_with fail
    refine (implIsScheme_c p n m k A cap qs _ (hr.keep (below1 _ _)) hlen).mono ?_
    rintro e w1 ⟨rfl, c1⟩
    have hB := below_after (below1 _ _) c1
    rw [Hs.out]
    go_wp2_with fail
    go_ret2
    exact ⟨by rw [Hc.out.1, Hc.out.2]; rfl, hB⟩
  | true =>
    have Hs := Lib.hid hs
    have Hc : Hid (cntI p n m k qs = (cntA p m k qs (m * k).toNat (n * m).toNat : Nat) ∧ sCode p n m k qs = 0) := Lib.hid (by simp [cntI, sCode, hs, wrS_cnt hs])
    have Hsz := Lib.hid (sizesB_parts (schemeB_sizes hs))
    have Hbd := Lib.hid (sizes_bounds (schemeB_sizes hs))
    have Hpb := Lib.hid (primeB_bounds (sizesB_parts (schemeB_sizes hs)).1)
    have H30 := Lib.hid (schemeB_len hs)
    obtain ⟨⟨x1, x2⟩, ⟨y1, y2⟩, _⟩ := sizesB_mul (schemeB_sizes hs)
    obtain ⟨N1, e1⟩ := Int.eq_ofNat_of_zero_le (show 0 ≤ n * m by omega)
    obtain ⟨N2, e2⟩ := Int.eq_ofNat_of_zero_le (show 0 ≤ m * k by omega)
    have l1 : N1 ≤ 9 := by omega
    have l2 : N2 ≤ 9 := by omega
    rw [e1, e2] at Hc
    have E1 : Hid ((N1 : Int) = n * m) := Lib.hid e1.symm
    have E2 : Hid ((N2 : Int) = m * k) := Lib.hid e2.symm
    have n1 : Int.toNat (N1 : Int) = N1 := rfl
    have n2 : Int.toNat (N2 : Int) = N2 := rfl
    rw [n1, n2] at Hc
    clear hs x1 x2 y1 y2 e1 e2 n1 n2
    go_enter Try.func16, Try.ntmps16
    go_wp2_with fail
    refine (implIsScheme_c p n m k A cap qs _ (hr.keep (below1 _ _)) hlen).mono ?_
    rintro e w1 ⟨rfl, c1⟩
    have hB := below_after (below1 _ _) c1
    have h0 := At.after (al1_0 _ _) c1
    clear c1
    rw [Hs.out]
    go_wp2_with (refine wpList_load_all rfl 30 _ rfl w.heap.size rfl _ _ _ h0 Try.underlying30 rfl 5 (by kernel_rfl) rfl ?_)
    refine (shapesOf_c p n m k _ _).mono ?_
    rintro e w2 ⟨rfl, c1⟩
    replace hB := below_after hB c1
    replace h0 := h0.after c1
    clear c1
    go_wp2_with fail
    have H1 := Lib.hid (fun w => places_c n m w Hsz.out.2.1 Hsz.out.2.2.1)
    have H2 := Lib.hid (fun w => places_c m k w Hsz.out.2.2.1 Hsz.out.2.2.2)
    refine (H1.out _).mono ?_
    rintro e w3 ⟨rfl, c1⟩
    replace h0 := (h0.after (below1 _ _)).after c1
    have hS := At.after (al1_0 _ _) c1
    replace hB := below_after (below_after hB (below1 _ _)) c1
    have hK : KC w p n m k A qs.length cap w2.heap.size w3 := ⟨hB, h0, hS⟩
    generalize w2.heap.size = g at *
    clear c1 hB h0 hS
    rw [← E1.out]
    go_wp2_with fail
    go_loopw [4, 16] (fun cnt i wr => ∃ a : Nat, a ≤ N1 ∧ i = .int .i64 a ∧ cnt = .int .i64 (cntA p m k qs N2 a : Nat) ∧ KC w p n m k A qs.length cap g wr) (fun _ i _ => N1 - (intOf i).toNat)
    case atStart => exact ⟨0, by omega, rfl, rfl, hK⟩
    case round =>
      clear hK
      obtain ⟨a, ha, rfl, rfl, hK⟩ := hrel
      by_cases hlt : a < N1
      · have e0 : IntKind.i64.wrap ((a : Int) + 1) = (a : Int) + 1 := IntWalk.i64_in _ (by omega)
        have hcA := cntA_le p m k qs N2 a
        have hcA2 : a * (N2 * 9) ≤ 9 * 81 := Nat.mul_le_mul (by omega) (by omega)
        have HSA : Hid (cntA p m k qs N2 (a + 1) = cntA p m k qs N2 a + cntB p m k qs a N2) := Lib.hid rfl
        generalize cntA p m k qs N2 a = sA at *
        go_wp2_with (refine wpList_of_exec rfl (exec_load_lit 52 _ rfl g 2 rfl _ _ _ 2 hK.shp Try.underlying52 rfl (by kernel_rfl) (by simp) #[.int .i64 m, .int .i64 k] rfl) ?_)
        refine (H2.out _).mono ?_
        rintro e w4 ⟨rfl, c1⟩
        replace hK := hK.after c1
        clear c1
        rw [← E2.out]
        go_wp2_with fail
        go_loopw [4, 22] (fun cnt i wr => ∃ b : Nat, b ≤ N2 ∧ i = .int .i64 b ∧ cnt = .int .i64 ((sA + cntB p m k qs a b : Nat) : Int) ∧ KC w p n m k A qs.length cap g wr) (fun _ i _ => N2 - (intOf i).toNat)
        case atStart => exact ⟨0, by omega, rfl, rfl, hK⟩
        case round =>
          clear hK
          obtain ⟨b, hb, rfl, rfl, hK⟩ := hrel
          by_cases hlt2 : b < N2
          · have f0 : IntKind.i64.wrap ((b : Int) + 1) = (b : Int) + 1 := IntWalk.i64_in _ (by omega)
            have hcB := cntB_le p m k qs a b
            have hdf := diffN_le (sidesL p.toNat qs a b) (rightL m k a b) 9
            have HSB : Hid (cntB p m k qs a (b + 1) = cntB p m k qs a b + diffN (sidesL p.toNat qs a b) (rightL m k a b) 9) := Lib.hid rfl
            generalize cntB p m k qs a b = sB at *
            have HL := Lib.hid (leftSidesI_c p n m k A cap qs a b Hpb.out H30.out (by omega) (by omega))
            have HR := Lib.hid (fun v w => rightSides_c p n m k a b v w Hbd.out.1 Hbd.out.2.1 Hbd.out.2.2 ⟨by omega, by rw [← E1.out]; omega⟩ (by omega) ⟨by omega, by omega⟩)
            have HD := Lib.hid (fun w => countDifferent_c (sidesL p.toNat qs a b) (rightL m k a b) (sidesL_bytes _ _ _ (by have := Hpb.out; omega) (by have := Hpb.out; omega)) (rightL_bytes _ _ _ _) w)
            generalize diffN (sidesL p.toNat qs a b) (rightL m k a b) 9 = dd at *
            generalize sidesL p.toNat qs a b = ff at *
            generalize rightL m k a b = gg at *
            have e1 : IntKind.i64.wrap (((sA + sB : Nat) : Int) + (dd : Int)) = ((sA + sB : Nat) : Int) + (dd : Int) := IntWalk.i64_in _ (by omega)
            have hD := hK.drew
            have k0 := hD.c0
            have k1 := hD.c1
            have k2 := hD.c2
            have k3 := hD.c3
            have k4 := hD.c4
            go_wp2_with fail
            go_region_with (first | (go_at_call 30; refine (HL.out _ (hr.keep hD.below)).mono ?_; rintro e w5 ⟨rfl, b2⟩; replace hD := hD.after b2; replace k0 := hD.c0; replace k1 := hD.c1; replace k2 := hD.c2; replace k3 := hD.c3; replace k4 := hD.c4; clear b2) | (go_at_call 33; refine (HR.out _ _).mono ?_; rintro e w5 ⟨rfl, b2⟩; replace hD := hD.after b2; replace k0 := hD.c0; replace k1 := hD.c1; replace k2 := hD.c2; replace k3 := hD.c3; replace k4 := hD.c4; clear b2) | (go_at_call 39; refine (HD.out _).mono ?_; rintro e w5 ⟨rfl, b2⟩; replace hD := hD.after b2; replace k0 := hD.c0; replace k1 := hD.c1; replace k2 := hD.c2; replace k3 := hD.c3; replace k4 := hD.c4; clear b2))
            all_goals go_wp2_with fail
            all_goals exact ⟨⟨b + 1, by omega, by go_num, by rw [HSB.out]; congr 1; omega, hD⟩, by simp [intOf]; omega⟩
          · obtain rfl : b = N2 := by omega
            go_wp2_with fail
            exact ⟨⟨a + 1, by omega, by go_num, by rw [HSA.out], hK⟩, by simp [intOf]; omega⟩
      · obtain rfl : a = N1 := by omega
        go_wp2_with fail
        go_ret2
        exact ⟨by rw [Hc.out.1, Hc.out.2]; rfl, hK.below⟩
end Go.Proofs.Ytdcgkmfkbdhfhaa
