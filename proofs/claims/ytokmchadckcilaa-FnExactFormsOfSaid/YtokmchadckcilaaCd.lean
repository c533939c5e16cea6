/-
  impl.countDifferent; small laws on places. (Taken out of Wrong3, Wrong4, Nrm0, Ten1, so that a claim needs fewer texts.)
-/
import Derived.Test.YtokmchadckcilaaMat1
import Derived.Test.YtokmchadckcilaaIs
import Derived.Deep.RegionWith
namespace Go.Proofs.Ytokmchadckcilaa
open Go.RowKit
set_option maxRecDepth 100000
/-- At how many of the first places two lists differ. -/
def cdN (f g : List Nat) : Nat → Nat
  | 0 => 0
  | c + 1 => cdN f g c + (if f[c]?.getD 0 = g[c]?.getD 0 then 0 else 1)
theorem cdN_le (f g : List Nat) (c : Nat) : cdN f g c ≤ c := by
  induction c with
  | zero => simp [cdN]
  | succ c ih => simp only [cdN]; split <;> omega
theorem segm_nth (l : List Nat) (off n i : Nat) (hi : i < n) : (segm l off n)[i]?.getD 0 = l[off + i]?.getD 0 := by
  unfold segm
  rw [List.getElem?_take, if_pos hi, List.getElem?_drop]
theorem Rd.c27 {w : World} {b off : Nat} {qs : List (List Nat)} (h : Rd w (some ⟨b, off, none⟩) qs) {i : Nat} (hi : i < qs.length) : ∀ j, j < 27 → w.cell? ⟨b, off + i * 27 + j, none⟩ = some (.int .u8 ((qs[i][j]?.getD 0 : Nat) : Int)) := by
  obtain ⟨b', off', e, hc⟩ := h.at_ hi
  simp only [Option.some.injEq, Addr.mk.injEq] at e
  obtain ⟨rfl, rfl, _⟩ := e
  exact hc
theorem OwnI.put2 {w w' : World} {lo g : Nat} {v : Value} {xs : List Int} {o : Obj} (h : OwnI w lo v xs) (hp : Put w w' g o) (hne : some g ≠ v.ownBlock) : OwnI w' lo v xs := by
  refine ⟨h.1, ?_⟩
  rcases h.2 with hn | ⟨g2, cap, cur, rfl, hb, hgg, rest⟩
  · exact .inl hn
  · exact .inr ⟨g2, cap, cur, rfl, hb, hp.other (k := g2) hgg (fun e => hne (by simp [Value.ownBlock, e])), rest⟩
end Go.Proofs.Ytokmchadckcilaa
