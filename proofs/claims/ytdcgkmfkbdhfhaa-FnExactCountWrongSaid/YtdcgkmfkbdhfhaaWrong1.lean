/-
  spec.l01Wrong: how many equations do not hold, and the places of the first.
-/
import Derived.Test.YtdcgkmfkbdhfhaaWrong0
import Derived.Deep.RegionWith
namespace Go.Proofs.Ytdcgkmfkbdhfhaa
open Go.RowKit
set_option maxRecDepth 100000
def wrongB (p m k : Int) (qs : List (List Nat)) (a b c : Nat) : Bool := !((sumN qs a b c : Nat) % p == wantI m k a b c)
/-- What stays: what was there; the list of the first's places; the box of the scheme. -/
structure KW (w : World) (p n m k : Int) (A : Option Addr) (len cap : Nat) (v : Value) (xs : List Value) (wr : World) : Prop where
  below : Below w.heap.size w wr
  own : wr.ownsRow (w.heap.size + 1) 2 1 v xs.length xs
  box : At wr w.heap.size (.cells #[.int .i64 p, .int .i64 n, .int .i64 m, .int .i64 k, .slice A len cap] 30 (0, 0))
section
variable {w wr w2 : World} {p n m k : Int} {A : Option Addr} {len cap : Nat} {v : Value} {xs : List Value}
theorem KW.after (h : KW w p n m k A len cap v xs wr) (hb : Below wr.heap.size wr w2) : KW w p n m k A len cap v xs w2 := ⟨below_after h.below hb, own_below h.own hb, h.box.after hb⟩
theorem KW.drew (h : KW w p n m k A len cap v xs wr) : KW w p n m k A len cap v xs wr.drew := ⟨h.below.drew, h.own, h.box⟩
theorem KW.c0 (h : KW w p n m k A len cap v xs wr) : wr.cell? ⟨w.heap.size, 0, none⟩ = some (.int .i64 p) := h.box.at_ 0
theorem KW.c1 (h : KW w p n m k A len cap v xs wr) : wr.cell? ⟨w.heap.size, 1, none⟩ = some (.int .i64 n) := h.box.at_ 1
theorem KW.c2 (h : KW w p n m k A len cap v xs wr) : wr.cell? ⟨w.heap.size, 2, none⟩ = some (.int .i64 m) := h.box.at_ 2
theorem KW.c3 (h : KW w p n m k A len cap v xs wr) : wr.cell? ⟨w.heap.size, 3, none⟩ = some (.int .i64 k) := h.box.at_ 3
theorem KW.c4 (h : KW w p n m k A len cap v xs wr) : wr.cell? ⟨w.heap.size, 4, none⟩ = some (.slice A len cap) := h.box.at_ 4
end
def WrongRel (w : World) (p n m k : Int) (A : Option Addr) (cap : Nat) (qs : List (List Nat)) (s : Wst) (v cnt : Value) (wr : World) : Prop :=
  cnt = .int .i64 (s.1 : Nat) ∧ KW w p n m k A qs.length cap v (fstL s.2) wr
theorem start_KW {w u1 : World} {p n m k : Int} {A : Option Addr} {len cap : Nat} (hB : Below w.heap.size w u1) (h0 : At u1 w.heap.size (.cells #[.int .i64 p, .int .i64 n, .int .i64 m, .int .i64 k, .slice A len cap] 30 (0, 0))) :
    KW w p n m k A len cap (.slice (some ⟨u1.heap.size, 0, none⟩) 0 0) [] (u1.alloc (.cells #[] 2)) :=
  ⟨below_after hB (below1 _ _), World.ownsRow_lit u1 #[] 0 h0.lt (by unfold maxLen; omega) rfl, h0.after (below1 _ _)⟩
theorem l01Wrong_lens (n m : Int) (hn : 1 ≤ n ∧ n ≤ 3) (hm : 1 ≤ m ∧ m ≤ 3) : ∃ N : Nat, (N : Int) = n * m ∧ N ≤ 9 := by
  have := mul_bounds hn.1 hn.2 hm.1 hm.2
  exact ⟨(n * m).toNat, by omega, by omega⟩
theorem infoI64 : (Try.prog.info? 2).map (fun i => (i.zero, i.size, i.bytes)) = some (some (.int .i64 0), 1, 8) := by kernel_rfl
theorem one3 (a b c : Int) : ∀ u ∈ [Value.int .i64 a, .int .i64 b, .int .i64 c], u.oneCell' = true := by
  intro u hu
  simp at hu
  rcases hu with rfl | rfl | rfl <;> rfl
theorem cells3 {w : World} {g : Nat} {a b c : Int} {t : TypeId} (h : At w g (.cells #[.int .i64 a, .int .i64 b, .int .i64 c] t (0, 0))) : ∀ j u, [Value.int .i64 a, .int .i64 b, .int .i64 c][j]? = some u → w.cell? ((⟨g, 0, none⟩ : Addr).add j) = some u := by
  intro j u hu
  have := h.at_ j
  match j, hu with
  | 0, hu => simp at hu; subst hu; exact this
  | 1, hu => simp at hu; subst hu; exact this
  | 2, hu => simp at hu; subst hu; exact this
  | j + 3, hu => simp at hu
theorem grow_KW {w w2 w3 : World} {p n m k a b c : Int} {A : Option Addr} {len cap : Nat} {v v' : Value} (h : KW w p n m k A len cap v [] w2) (ho : (w2.alloc (.cells #[.int .i64 a, .int .i64 b, .int .i64 c] 2)).grownBy w3 v.ownBlock) (hw : w3.ownsRow (w.heap.size + 1) 2 1 v' 3 [.int .i64 a, .int .i64 b, .int .i64 c]) :
    KW w p n m k A len cap v' [.int .i64 a, .int .i64 b, .int .i64 c] w3 := by
  have hs := h.below.size
  have hA := h.box.after (below1 w2 (.cells #[.int .i64 a, .int .i64 b, .int .i64 c] 2))
  refine ⟨(below_after h.below (below1 _ _)).grown ho (by simp; omega) (fun k hk => by have := (h.own.lt k hk).1; omega), hw, (ho.block _ ?_ ?_).trans hA⟩
  · exact hA.lt
  · intro e
    have := (h.own.lt _ e.symm).1
    omega
set_option maxHeartbeats 1600000 in
theorem l01Wrong_c (p n m k : Int) (A : Option Addr) (cap : Nat) (qs : List (List Nat)) (w : World) (hr : Rd w A qs) (hs : schemeB p n m k qs = true) (N1 N2 N3 : Nat) (e1 : (N1 : Int) = n * m) (e2 : (N2 : Int) = m * k) (e3 : (N3 : Int) = n * k) (l1 : N1 ≤ 9) (l2 : N2 ≤ 9) (l3 : N3 ≤ 9) :
    Calls Try.prog 35 #[.agg #[.int .i64 p, .int .i64 n, .int .i64 m, .int .i64 k, .slice A qs.length cap]] w
      fun e w' => ∃ v, e = .returned (.tuple #[v, .int .i64 ((runA (wrongB p m k qs) N2 N3 N1).1 : Nat)]) ∧ KW w p n m k A qs.length cap v (fstL (runA (wrongB p m k qs) N2 N3 N1).2) w' := by
  have Hpp := Lib.hid (primeB_pos (sizesB_parts (schemeB_sizes hs)).1)
  have H30 := Lib.hid (schemeB_len hs)
  have Hbd := Lib.hid (sizes_bounds (schemeB_sizes hs))
  have Hp := Lib.hid (sizesB_parts (schemeB_sizes hs))
  have E1 := Lib.hid e1
  have E2 := Lib.hid e2
  have E3 := Lib.hid e3
  clear hs e1 e2 e3
  go_enter Try.func35, Try.ntmps35
  go_wp2_with fail
  refine (l01Lengths_c p n m k _ _ Hp.out.2.1 Hp.out.2.2.1 Hp.out.2.2.2).mono ?_
  rintro e u1 ⟨rfl, c1⟩
  have hB := below_after (below1 _ _) c1
  have h0 := At.after (al1_0 _ _) c1
  clear c1
  rw [← E1.out, ← E2.out, ← E3.out]
  go_wp2_with fail
  go_loopw [7, 8, 9] (fun v cnt i wr => ∃ a : Nat, a ≤ N1 ∧ i = .int .i64 a ∧ WrongRel w p n m k A cap qs (runA (wrongB p m k qs) N2 N3 a) v cnt wr) (fun _ _ i _ => N1 - (intOf i).toNat)
  case atStart => exact ⟨0, by omega, rfl, rfl, start_KW hB h0⟩
  case round =>
    obtain ⟨a, ha, rfl, rfl, hK⟩ := hrel
    by_cases hlt : a < N1
    · have e0 : IntKind.i64.wrap ((a : Int) + 1) = (a : Int) + 1 := IntWalk.i64_in _ (by omega)
      have hcA := runA_le (wrongB p m k qs) N2 N3 a
      have h23 : N2 * N3 ≤ 9 * 9 := Nat.mul_le_mul l2 l3
      have hcA2 : a * (N2 * N3) ≤ 9 * 81 := Nat.mul_le_mul (by omega) h23
      have Hw := Lib.hid (WF.runA (wrongB p m k qs) N2 N3 a)
      have HSA : Hid (runA (wrongB p m k qs) N2 N3 (a + 1) = runB (wrongB p m k qs) N3 (runA (wrongB p m k qs) N2 N3 a) a N2) := Lib.hid rfl
      generalize runA (wrongB p m k qs) N2 N3 a = sA at *
      go_wp2_with fail
      go_loopw [7, 8, 10] (fun v cnt i wr => ∃ b : Nat, b ≤ N2 ∧ i = .int .i64 b ∧ WrongRel w p n m k A cap qs (runB (wrongB p m k qs) N3 sA a b) v cnt wr) (fun _ _ i _ => N2 - (intOf i).toNat)
      case atStart => exact ⟨0, by omega, rfl, rfl, hK⟩
      case round =>
        clear hK
        obtain ⟨b, hb, rfl, rfl, hK⟩ := hrel
        by_cases hlt2 : b < N2
        · have f0 : IntKind.i64.wrap ((b : Int) + 1) = (b : Int) + 1 := IntWalk.i64_in _ (by omega)
          have hcB := runB_le (wrongB p m k qs) N3 sA a b
          have hcB2 : b * N3 ≤ 9 * 9 := Nat.mul_le_mul (by omega) l3
          have Hw2 := Lib.hid (Hw.out.runB (wrongB p m k qs) N3 a b)
          have HSB : Hid (runB (wrongB p m k qs) N3 sA a (b + 1) = runC (wrongB p m k qs) (runB (wrongB p m k qs) N3 sA a b) a b N3) := Lib.hid rfl
          generalize runB (wrongB p m k qs) N3 sA a b = sB at *
          go_wp2_with fail
          go_loopw [7, 8, 11] (fun v cnt i wr => ∃ c : Nat, c ≤ N3 ∧ i = .int .i64 c ∧ WrongRel w p n m k A cap qs (runC (wrongB p m k qs) sB a b c) v cnt wr) (fun _ _ i _ => N3 - (intOf i).toNat)
          case atStart => exact ⟨0, by omega, rfl, rfl, hK⟩
          case round =>
            clear hK
            obtain ⟨c, hc, rfl, rfl, hK⟩ := hrel
            by_cases hlt3 : c < N3
            · have g0 : IntKind.i64.wrap ((c : Int) + 1) = (c : Int) + 1 := IntWalk.i64_in _ (by omega)
              have hcC := runC_le (wrongB p m k qs) sB a b c
              have Hw3 := Lib.hid (Hw2.out.runC (wrongB p m k qs) a b c)
              have HSC : Hid (runC (wrongB p m k qs) sB a b (c + 1) = stp (wrongB p m k qs a b c) (runC (wrongB p m k qs) sB a b c) (a, b, c)) := Lib.hid rfl
              generalize runC (wrongB p m k qs) sB a b c = sC at *
              have HS := Lib.hid (fun A c' w hr => l01Sum_c p n m k A c' qs a b c w Hpp.out hr H30.out (by omega) (by omega) (by omega))
              have HW := Lib.hid (fun v w => l01Want_c p n m k a b c v w Hbd.out.2.1 Hbd.out.2.2 ⟨by omega, by omega⟩ ⟨by omega, by omega⟩ ⟨by omega, by omega⟩)
              have hD := hK.drew
              have k0 := hD.c0
              have k1 := hD.c1
              have k2 := hD.c2
              have k3 := hD.c3
              have k4 := hD.c4
              go_wp2_with fail
              go_region_with (first | (go_at_call 27; refine (HS.out _ _ _ (hr.keep hD.below)).mono ?_; rintro e w2 ⟨rfl, b2⟩; replace hD := hD.after b2; replace k0 := hD.c0; replace k1 := hD.c1; replace k2 := hD.c2; replace k3 := hD.c3; replace k4 := hD.c4; clear b2) | (go_at_call 32; refine (HW.out _ _).mono ?_; rintro e w2 ⟨rfl, b2⟩; replace hD := hD.after b2; replace k0 := hD.c0; replace k1 := hD.c1; replace k2 := hD.c2; replace k3 := hD.c3; replace k4 := hD.c4; clear b2))
              all_goals (
                clear HS HW k0 k1 k2 k3 k4
                have hn : sC.1 ≤ 819 := by omega
                have q0 : IntKind.i64.wrap ((sC.1 : Int) + 1) = (sC.1 : Int) + 1 := IntWalk.i64_in _ (by omega)
                cases hq : (((sumN qs a b c : Nat) : Int) % p == wantI m k a b c) with
                | true =>
                  have Hq : Hid (wrongB p m k qs a b c = false) := Lib.hid (by simp [wrongB, hq])
                  go_wp2_with fail
                  exact ⟨⟨c + 1, by omega, by go_num, by rw [HSC.out, Hq.out]; rfl, by rw [HSC.out, Hq.out]; exact hD⟩, by simp [intOf]; omega⟩
                | false =>
                  have Hq : Hid (wrongB p m k qs a b c = true) := Lib.hid (by simp [wrongB, hq])
                  by_cases hz : sC.1 = 0
                  · have hnone := (Hw3.out).1 hz
                    obtain ⟨n0, o⟩ := sC
                    simp only at hz hnone
                    subst hz hnone
                    clear Hw3
                    obtain ⟨i0, hi, hz0, hz1, hz2⟩ := info_parts infoI64
                    go_wp2_with (at_builtin; go_loud (refine wpList_append_own _ rfl _ _ 38 rfl (w.heap.size + 1) 2 i0 (.int .i64 0) 1 8 Try.underlying38 hi hz0 hz1 hz2 rfl (by decide) _ _ _ rfl (own_below hD.own (below1 _ _)) ⟨w2.heap.size, 0, none⟩ 3 3 [.int .i64 a, .int .i64 b, .int .i64 c] rfl rfl (cells3 (al1_0 _ _)) (one3 _ _ _) (by unfold maxLen; simp [fstL]) (by simp [fstL]) (by have := hD.box.lt; rw [size_al1]; omega) ?_); intro v1 w3 own3 gr3 nil3)
                    exact ⟨⟨c + 1, by omega, by go_num, by rw [HSC.out, Hq.out]; rfl, by rw [HSC.out, Hq.out]; exact grow_KW hD gr3 own3⟩, by simp [intOf]; omega⟩
                  · have hz2 : ((sC.1 : Int) == 0) = false := by simp; omega
                    have Hz := Lib.hid hz
                    clear hz
                    go_wp2_with fail
                    exact ⟨⟨c + 1, by omega, by go_num, by rw [HSC.out, Hq.out]; simp [stp], by rw [HSC.out, Hq.out]; simp only [stp, Hz.out, if_true, if_false]; exact hD⟩, by simp [intOf]; omega⟩)
            · obtain rfl : c = N3 := by omega
              go_wp2_with fail
              exact ⟨⟨b + 1, by omega, by go_num, by rw [HSB.out], by rw [HSB.out]; exact hK⟩, by simp [intOf]; omega⟩
        · obtain rfl : b = N2 := by omega
          go_wp2_with fail
          exact ⟨⟨a + 1, by omega, by go_num, by rw [HSA.out], by rw [HSA.out]; exact hK⟩, by simp [intOf]; omega⟩
    · obtain rfl : a = N1 := by omega
      go_wp2_with fail
      go_ret2
      exact ⟨_, rfl, hK⟩
end Go.Proofs.Ytdcgkmfkbdhfhaa
