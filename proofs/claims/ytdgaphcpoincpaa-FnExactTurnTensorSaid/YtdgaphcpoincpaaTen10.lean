/-
  spec.TurnTensor. (Made by mkten9.py.)
-/
import Derived.Test.YtdgaphcpoincpaaTen9
import Derived.Test.YtdgaphcpoincpaaTenT
namespace Go.Proofs.Ytdgaphcpoincpaa
open Go.RowKit
set_option maxRecDepth 100000
set_option maxHeartbeats 1600000 in
theorem specTurnTensor_c (p a b c : Int) (A : Option Addr) (cap : Nat) (xs : List Int) (w : World) (hr : RdI w A xs) (hn : xs.length ≤ 1048576) :
    Calls Try.prog 14 #[.agg #[.int .i64 p, .int .i64 a, .int .i64 b, .int .i64 c, .slice A xs.length cap]] w (ResT w (ttZ p a b c xs p) (ttZ p a b c xs b) (ttZ p a b c xs c) (ttZ p a b c xs a) (ttR p a b c xs) (ttCode p a b c xs)) := by
  have hB := below2 w (.cells #[.int .i64 p, .int .i64 a, .int .i64 b, .int .i64 c, .slice A xs.length cap] 27 (0, 0)) (.cells #[.int .i64 0, .int .i64 0, .int .i64 0, .int .i64 0, .slice none 0 0] 27 (0, 0))
  have hg := al2_0 w (.cells #[.int .i64 p, .int .i64 a, .int .i64 b, .int .i64 c, .slice A xs.length cap] 27 (0, 0)) (.cells #[.int .i64 0, .int .i64 0, .int .i64 0, .int .i64 0, .slice none 0 0] 27 (0, 0))
  have h1 := al2_1 w (.cells #[.int .i64 p, .int .i64 a, .int .i64 b, .int .i64 c, .slice A xs.length cap] 27 (0, 0)) (.cells #[.int .i64 0, .int .i64 0, .int .i64 0, .int .i64 0, .slice none 0 0] 27 (0, 0))
  have HI := Lib.hid (l05Is_c p a b c A cap xs _ (hr.keep hB) hn)
  cases ht : tenB p a b c xs with
  | false =>
    have Hc : Hid (ttCode p a b c xs = 1) := Lib.hid (by simp [ttCode, ht])
    have Hz : Hid (∀ x, ttZ p a b c xs x = 0) := Lib.hid (fun x => by simp [ttZ, ht])
    have Hr : Hid (ttR p a b c xs = []) := Lib.hid (by simp [ttR, ht])
    rw [ht] at HI
    clear ht hr
    go_enter Try.func14, Try.ntmps14
    go_wp2_with fail
    refine HI.out.mono ?_
    rintro e w1 ⟨rfl, b1⟩
    have h1' := At.after h1 b1
    replace hB := below_after hB b1
    clear h1 hg
    go_wp2_with (refine wpList_store_all rfl 27 _ _ rfl rfl (w.heap.size + 1) rfl #[.int .i64 0, .int .i64 0, .int .i64 0, .int .i64 0, .slice none 0 0] rfl _ _ h1' 5 (by kernel_rfl) rfl rfl (by simp [Value.oneCell']) ?_; intro w7 p7)
    refine bodyPost_ret (results_at2 rfl _ _ (w.heap.size + 1) _ _ _ rfl _ rfl p7.at_ Try.underlying27 rfl 5 (by kernel_rfl) rfl) rfl ?_
    exact ⟨.slice none 0 0, by rw [Hz.out, Hz.out, Hz.out, Hz.out, Hc.out]; rfl, by rw [Hr.out]; exact OwnI.nil _ _, p7.below hB (by omega)⟩
  | true =>
    have Hc : Hid (ttCode p a b c xs = 0) := Lib.hid (by simp [ttCode, ht])
    have Hz : Hid (∀ x, ttZ p a b c xs x = x) := Lib.hid (fun x => by simp [ttZ, ht])
    have Hr : Hid (ttR p a b c xs = turnL p a.toNat b.toNat c.toNat xs) := Lib.hid (by simp [ttR, ht])
    have ht2 := ht
    rw [ht] at HI
    obtain ⟨_, s0, s1, s2, _, _⟩ := tenB_parts ht
    obtain ⟨n0, rfl⟩ := Int.eq_ofNat_of_zero_le (show 0 ≤ a by have := sideB_in s0; omega)
    obtain ⟨n1, rfl⟩ := Int.eq_ofNat_of_zero_le (show 0 ≤ b by have := sideB_in s1; omega)
    obtain ⟨n2, rfl⟩ := Int.eq_ofNat_of_zero_le (show 0 ≤ c by have := sideB_in s2; omega)
    rw [Int.toNat_natCast, Int.toNat_natCast, Int.toNat_natCast] at Hr
    have HT := Lib.hid (fun w' (hb : Below w.heap.size w w') => l05Turn_c p n0 n1 n2 A cap xs w' (hr.keep hb) ht2)
    clear ht ht2 hr s0 s1 s2
    go_enter Try.func14, Try.ntmps14
    go_wp2_with fail
    refine HI.out.mono ?_
    rintro e w1 ⟨rfl, b1⟩
    have h1' := At.after h1 b1
    have hg' := At.after hg b1
    have z1 : w.heap.size + 1 + 1 ≤ w1.heap.size := Nat.le_trans (Nat.le_of_eq (size_al2 _ _ _).symm) b1.size
    replace hB := below_after hB b1
    clear h1 hg
    go_wp2_with (refine wpList_load_all rfl 27 _ rfl w.heap.size rfl _ _ _ hg' Try.underlying27 rfl 5 (by kernel_rfl) rfl ?_)
    refine (HT.out _ hB).mono ?_
    rintro e w2 ⟨v, rfl, ho, b2⟩
    replace h1' := h1'.after b2
    replace hB := below_after hB b2
    replace ho := ho.mono z1
    obtain ⟨A5, c5, rfl, _⟩ := ho.rd
    clear hg'
    go_wp2_with (refine wpList_store_all rfl 27 _ _ rfl rfl (w.heap.size + 1) rfl _ rfl _ _ h1' 5 (by kernel_rfl) rfl rfl (by simp [Value.oneCell']) ?_; intro w7 p7)
    refine bodyPost_ret (results_at2 rfl _ _ (w.heap.size + 1) _ _ _ rfl _ rfl p7.at_ Try.underlying27 rfl 5 (by kernel_rfl) rfl) rfl ?_
    exact ⟨_, by rw [Hz.out, Hz.out, Hz.out, Hz.out, Hc.out]; rfl, by rw [Hr.out]; exact (ho.put p7 (fun e => by have := (ho.lt e.symm).1; omega)).mono (by omega), p7.below hB (by omega)⟩
end Go.Proofs.Ytdgaphcpoincpaa
