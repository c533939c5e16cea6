/-
  spec.StandardScheme.
-/
import Derived.Test.YtgjcfgieecamdaaStd2
import Derived.Test.YtgjcfgieecamdaaLK1
import Derived.Test.YtgjcfgieecamdaaRight2
namespace Go.Proofs.Ytgjcfgieecamdaa
open Go.RowKit
set_option maxRecDepth 100000
def stdQs (p n m k : Int) : List (List Nat) := if sizesB p n m k then stdA m.toNat k.toNat n.toNat else []
def stdZ (p n m k x : Int) : Int := if sizesB p n m k then x else 0
def stdCode (p n m k : Int) : Int := if sizesB p n m k then 0 else 2
theorem stdQs_bytes (p n m k : Int) : ∀ q ∈ stdQs p n m k, Bytes 27 q := by
  unfold stdQs
  split
  · exact stdA_bytes _ _ _
  · simp
theorem stdQs_len (p n m k : Int) : (stdQs p n m k).length ≤ 27 := by
  unfold stdQs
  split
  · rename_i h
    have hb := sizes_bounds h
    rw [stdA_len]
    exact Nat.mul_le_mul (show n.toNat ≤ 3 by omega) (Nat.mul_le_mul (show m.toNat ≤ 3 by omega) (show k.toNat ≤ 3 by omega))
  · simp
set_option maxHeartbeats 800000 in
theorem specStandard_c (p n m k : Int) (w : World) :
    Calls Try.prog 11 #[.int .i64 p, .int .i64 n, .int .i64 m, .int .i64 k] w (ResS w (stdZ p n m k p) (stdZ p n m k n) (stdZ p n m k m) (stdZ p n m k k) (stdQs p n m k) (stdCode p n m k)) := by
  cases hs : sizesB p n m k with
  | false =>
    have Hs := Lib.hid hs
    have Hz : Hid (∀ x, stdZ p n m k x = 0) := Lib.hid (fun x => by simp [stdZ, hs])
    have Hq : Hid (stdQs p n m k = [] ∧ stdCode p n m k = 2) := Lib.hid (by simp [stdQs, stdCode, hs])
    clear hs
    go_enter Try.func11, Try.ntmps11
    go_wp2_with fail
    refine (l01Sizes_c p n m k _).mono ?_
    rintro e w1 ⟨rfl, rfl⟩
    rw [Hs.out]
    go_wp2_with fail
    refine bodyPost_ret (results_at2 rfl _ _ w.heap.size _ _ _ rfl _ rfl (al1_0 _ _) Try.underlying29 rfl 5 (by kernel_rfl) rfl) rfl ?_
    exact ⟨.slice none 0 0, by rw [Hz.out, Hz.out, Hz.out, Hz.out, Hq.out.2]; rfl, by rw [Hq.out.1]; exact Own.nil _ _, below1 _ _⟩
  | true =>
    have Hs := Lib.hid hs
    have Hz : Hid (∀ x, stdZ p n m k x = x) := Lib.hid (fun x => by simp [stdZ, hs])
    have Hq : Hid (stdQs p n m k = stdA m.toNat k.toNat n.toNat ∧ stdCode p n m k = 0) := Lib.hid (by simp [stdQs, stdCode, hs])
    have hb := sizes_bounds hs
    obtain ⟨N, rfl⟩ := Int.eq_ofNat_of_zero_le (show 0 ≤ n by omega)
    obtain ⟨M, rfl⟩ := Int.eq_ofNat_of_zero_le (show 0 ≤ m by omega)
    obtain ⟨K, rfl⟩ := Int.eq_ofNat_of_zero_le (show 0 ≤ k by omega)
    have HW := Lib.hid (fun w => l01Standard_c p N M K w (by omega) (by omega) (by omega))
    clear hs hb
    go_enter Try.func11, Try.ntmps11
    go_wp2_with fail
    refine (l01Sizes_c p N M K _).mono ?_
    rintro e w1 ⟨rfl, rfl⟩
    rw [Hs.out]
    go_wp2_with fail
    refine (HW.out _).mono ?_
    rintro e w1 ⟨v, rfl, ho, hB⟩
    have h0 := At.after (al1_0 w _) hB
    have hoff := ho.off h0 (by decide)
    have hv := ho.shp.cells
    replace hB := below_after (below1 w _) hB
    go_wp2_with (refine wpList_store_all rfl 29 _ _ rfl rfl w.heap.size rfl _ rfl _ _ h0 5 (by kernel_rfl) rfl rfl (by intro x hx; simp at hx; rcases hx with rfl | rfl | rfl | rfl | rfl <;> first | rfl | exact hv.2) ?_; intro W2 p2)
    refine bodyPost_ret (results_at2 rfl _ _ w.heap.size _ _ _ rfl _ rfl p2.at_ Try.underlying29 rfl 5 (by kernel_rfl) rfl) rfl ?_
    exact ⟨v, by rw [Hz.out, Hz.out, Hz.out, Hz.out, Hq.out.2]; rfl, by rw [Hq.out.1]; exact (ho.put p2 hoff).mono (by rw [size_al1]; omega), p2.below hB (Nat.le_refl _)⟩
end Go.Proofs.Ytgjcfgieecamdaa
