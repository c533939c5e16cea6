/-
  impl.countDifferent; small laws on places. (Taken out of Wrong3, Wrong4, Nrm0, Ten1, so that a claim needs fewer texts.)
-/
import Derived.Test.YtphccbilldfdpaaMat1
import Derived.Test.YtphccbilldfdpaaIs
import Derived.Deep.RegionWith
namespace Go.Proofs.Ytphccbilldfdpaa
open Go.RowKit
set_option maxRecDepth 100000
/-- At how many of the first places two lists differ. -/
def cdN (f g : List Nat) : Nat → Nat
  | 0 => 0
  | c + 1 => cdN f g c + (if f[c]?.getD 0 = g[c]?.getD 0 then 0 else 1)
theorem cdN_le (f g : List Nat) (c : Nat) : cdN f g c ≤ c := by
  induction c with
  | zero => simp [cdN]
  | succ c ih => simp only [cdN]; split <;> omega
set_option maxHeartbeats 800000 in
theorem cdiff_c (f g : List Nat) (hf : Bytes 9 f) (hg : Bytes 9 g) (w : World) :
    Calls Try.prog 65 #[.agg (u8s f), .agg (u8s g)] w fun e w' => e = .returned (.int .i64 (cdN f g 9 : Nat)) ∧ Below w.heap.size w w' := by
  go_enter Try.func65, Try.ntmps65
  go_wp2_with fail
  go_loopw [5, 7] (fun cnt i wr => ∃ c : Nat, c ≤ 9 ∧ i = .int .i64 c ∧ cnt = .int .i64 (cdN f g c : Nat) ∧ Below w.heap.size w wr ∧ At wr w.heap.size (.cells (u8s f) 66 (0, 0)) ∧ At wr (w.heap.size + 1) (.cells (u8s g) 66 (0, 0))) (fun _ i _ => 9 - (intOf i).toNat)
  case atStart => exact ⟨0, by omega, rfl, rfl, below2 _ _ _, al2_0 _ _ _, al2_1 _ _ _⟩
  case round =>
    obtain ⟨c, hc, rfl, rfl, hB, h0, h1⟩ := hrel
    have hd := cdN_le f g c
    by_cases hlt : c < 9
    · have x0 := h0.cell (i := c) (by rw [hf.len]; exact hlt)
      have y0 := h1.cell (i := c) (by rw [hg.len]; exact hlt)
      have Hs : Hid (cdN f g (c + 1) = cdN f g c + (if f[c]?.getD 0 = g[c]?.getD 0 then 0 else 1)) := Lib.hid rfl
      have e0 : IntKind.i64.wrap ((c : Int) + 1) = (c : Int) + 1 := IntWalk.i64_in _ (by omega)
      have e1 : IntKind.i64.wrap ((cdN f g c : Int) + 1) = (cdN f g c : Int) + 1 := IntWalk.i64_in _ (by omega)
      generalize cdN f g c = D at *
      generalize f[c]?.getD 0 = x at *
      generalize g[c]?.getD 0 = y at *
      go_wp2_with fail
      go_region
      by_cases hxy : x = y
      · have hb : ((x : Int) == (y : Int)) = true := by simp [hxy]
        have hb2 : ((x : Int) != (y : Int)) = false := by simp [hxy]
        have Hv : Hid (cdN f g (c + 1) = D) := Lib.hid (by rw [Hs.out, if_pos hxy]; rfl)
        clear hxy
        go_wp2_with fail
        exact ⟨⟨c + 1, by omega, by go_num, by rw [Hv.out], hB.drew, h0.drewN 1, h1.drewN 1⟩, by simp [intOf]; omega⟩
      · have hb : ((x : Int) == (y : Int)) = false := by simp; omega
        have hb2 : ((x : Int) != (y : Int)) = true := by simp; omega
        have Hv : Hid (cdN f g (c + 1) = D + 1) := Lib.hid (by rw [Hs.out, if_neg hxy])
        clear hxy
        go_wp2_with fail
        exact ⟨⟨c + 1, by omega, by go_num, by rw [Hv.out]; rfl, hB.drew, h0.drewN 1, h1.drewN 1⟩, by simp [intOf]; omega⟩
    · obtain rfl : c = 9 := by omega
      go_wp2_with fail
      go_ret
      exact ⟨rfl, hB⟩
theorem segm_nth (l : List Nat) (off n i : Nat) (hi : i < n) : (segm l off n)[i]?.getD 0 = l[off + i]?.getD 0 := by
  unfold segm
  rw [List.getElem?_take, if_pos hi, List.getElem?_drop]
theorem Rd.c27 {w : World} {b off : Nat} {qs : List (List Nat)} (h : Rd w (some ⟨b, off, none⟩) qs) {i : Nat} (hi : i < qs.length) : ∀ j, j < 27 → w.cell? ⟨b, off + i * 27 + j, none⟩ = some (.int .u8 ((qs[i][j]?.getD 0 : Nat) : Int)) := by
  obtain ⟨b', off', e, hc⟩ := h.at_ hi
  simp only [Option.some.injEq, Addr.mk.injEq] at e
  obtain ⟨rfl, rfl, _⟩ := e
  exact hc
theorem OwnI.put2 {w w' : World} {lo g : Nat} {v : Value} {xs : List Int} {o : Obj} (h : OwnI w lo v xs) (hp : Put w w' g o) (hne : some g ≠ v.ownBlock) : OwnI w' lo v xs := by
  refine ⟨h.1, ?_⟩
  rcases h.2 with hn | ⟨g2, cap, cur, rfl, hb, hgg, rest⟩
  · exact .inl hn
  · exact .inr ⟨g2, cap, cur, rfl, hb, hp.other (k := g2) hgg (fun e => hne (by simp [Value.ownBlock, e])), rest⟩
end Go.Proofs.Ytphccbilldfdpaa
