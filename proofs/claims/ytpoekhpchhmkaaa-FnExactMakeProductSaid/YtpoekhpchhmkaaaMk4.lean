/-
  spec.MakeProduct: what it answers where the arguments are fit.
-/
import Derived.Test.YtpoekhpchhmkaaaMk2
import Derived.Test.YtpoekhpchhmkaaaMk3
import Derived.Test.YtpoekhpchhmkaaaMat1
namespace Go.Proofs.Ytpoekhpchhmkaaa
open Go.RowKit
set_option maxRecDepth 100000
set_option maxHeartbeats 1600000 in
theorem specMakeProduct_yes (p n m k : Int) (A0 : Option Addr) (c0 : Nat) (qs : List (List Nat)) (A B : Option Addr) (c1 c2 N M : Nat) (X Y : Nat → List Int) (w : World) (hq : Rd w A0 qs) (hlen : qs.length ≤ 1048576) (hX : RdM w A N X) (hY : RdM w B M Y) (hN : N ≤ 1048576) (hM : M ≤ 1048576) (hXl : ∀ i, i < N → (X i).length ≤ 1048576) (hYl : ∀ i, i < M → (Y i).length ≤ 1048576)
    (hyes : schemeB p n m k qs = true) (h1 : matB p n m N X = true) (h2 : matB p m k M Y = true) :
    Calls Try.prog 18 #[.agg #[.int .i64 p, .int .i64 n, .int .i64 m, .int .i64 k, .slice A0 qs.length c0], .slice A N c1, .slice B M c2] w (ResM w N (matC p (mkS qs X Y N M) (mkC qs) k.toNat qs.length 0) 0) := by
  have hs := hyes
  simp only [schemeB, Bool.and_eq_true, decide_eq_true_eq] at hs
  obtain ⟨⟨hs1, hl30⟩, _⟩ := hs
  obtain ⟨hp, sn, sm, sk⟩ := sizesB_parts hs1
  simp only [sizeB, Bool.and_eq_true, decide_eq_true_eq] at sn sm sk
  have hpp : 0 < p ∧ p ≤ 5 := by
    simp only [primeB, Bool.or_eq_true, beq_iff_eq] at hp
    omega
  obtain ⟨rfl, hXr⟩ := matB_parts h1
  obtain ⟨rfl, hYr⟩ := matB_parts h2
  obtain ⟨K, rfl⟩ : ∃ K : Nat, k = (K : Int) := ⟨k.toNat, by omega⟩
  rw [Int.toNat_natCast]
  have tX : tot X N ≤ N * 3 := tot_le (fun i hi => by have := (hXr i hi).1; omega)
  have tY : tot Y M ≤ M * 3 := tot_le (fun i hi => by have := (hYr i hi).1; omega)
  have HMk := Lib.hid (fun w hq hX hY => l01Make_c p N M K A0 c0 qs A B c1 c2 X Y w hq hl30 hX hY hp (by omega) (by omega) (by omega) (by omega) (by omega) (by omega) (by omega) (fun i hi x hx => by have := (hXr i hi).2 x hx; omega) (fun i hi x hx => by have := (hYr i hi).2 x hx; omega))
  have HS0 := fun w hq => l01Is_c p N M K A0 c0 qs w hq hlen
  rw [hyes] at HS0
  have HS := Lib.hid HS0
  have HX0 := fun w hX => l01Matrix_c p N M A c1 N X w hX hp hN hXl
  have HY0 := fun w hY => l01Matrix_c p M K B c2 M Y w hY hp hM hYl
  rw [h1] at HX0
  rw [h2] at HY0
  have HX := Lib.hid HX0
  have HY := Lib.hid HY0
  clear HX0 HY0 HS0 hXr hYr tX tY h1 h2 hyes hs1
  go_enter Try.func18, Try.ntmps18
  go_wp2_with fail
  refine (HS.out _ (hq.keep (below1 _ _))).mono ?_
  rintro e w1 ⟨rfl, b1⟩
  have hB := below_after (below1 _ _) b1
  have ha := At.after (al1_0 _ _) b1
  clear b1
  have k0 : w1.cell? ⟨w.heap.size, 0, none⟩ = some (.int .i64 p) := ha.at_ 0
  have k1 : w1.cell? ⟨w.heap.size, 1, none⟩ = some (.int .i64 N) := ha.at_ 1
  have k2 : w1.cell? ⟨w.heap.size, 2, none⟩ = some (.int .i64 M) := ha.at_ 2
  have k3 : w1.cell? ⟨w.heap.size, 3, none⟩ = some (.int .i64 K) := ha.at_ 3
  go_wp2_with fail
  refine (HX.out _ (hX.keep hB)).mono ?_
  rintro e w2 ⟨rfl, rfl⟩
  go_wp2_with fail
  refine (HY.out _ (hY.keep hB)).mono ?_
  rintro e w2 ⟨rfl, rfl⟩
  go_wp2_with (refine wpList_load_all rfl 31 _ rfl w.heap.size rfl _ _ _ (by exact ha) Try.underlying31 rfl 5 (by kernel_rfl) rfl ?_)
  refine (HMk.out _ (hq.keep hB) (hX.keep hB) (hY.keep hB)).mono ?_
  rintro e w3 ⟨v, rfl, oM, b3⟩
  go_wp2_with fail
  go_ret2
  exact ⟨_, rfl, oM.mono hB.size (Nat.le_refl _), below_after hB b3⟩
end Go.Proofs.Ytpoekhpchhmkaaa
