/-
  spec.l03Length: how many places the forms of a factor have.
-/
import Derived.Test.YtbgoopmmdbhogaaMv1
namespace Go.Proofs.Ytbgoopmmdbhogaa
open Go.RowKit
set_option maxRecDepth 100000
def lenF (n m k : Int) (f : Nat) : Int := if f = 0 then n * m else if f = 1 then m * k else n * k
set_option maxHeartbeats 1600000 in
theorem l03Length_c (p n m k : Int) (v : Value) (f : Nat) (hf : f < 3) (w : World) (hn : sizeB n = true) (hm : sizeB m = true) (hk : sizeB k = true) :
    Calls Try.prog 44 #[.agg #[.int .i64 p, .int .i64 n, .int .i64 m, .int .i64 k, v], .int .i64 f] w fun e w' => e = .returned (.int .i64 (lenF n m k f)) ∧ Below w.heap.size w w' := by
  have HL := Lib.hid (fun v w => l01Lengths_c p n m k v w hn hm hk)
  have hf' : f = 0 ∨ f = 1 ∨ f = 2 := by omega
  rcases hf' with rfl | rfl | rfl
  all_goals (
    have HR : Hid (lenF n m k 0 = n * m ∧ lenF n m k 1 = m * k ∧ lenF n m k 2 = n * k) := Lib.hid ⟨rfl, rfl, rfl⟩
    go_enter Try.func44, Try.ntmps44
    go_wp2_with (first | (refine wpList_abs1 ?_; intro W hsz hB h0) | (refine wpList_load_all rfl 28 _ rfl w.heap.size rfl _ _ _ h0 Try.underlying28 rfl 5 (by kernel_rfl) rfl ?_))
    refine (HL.out _ _).mono ?_
    rintro e w1 ⟨rfl, b1⟩
    replace hB := below_after hB b1
    go_wp2_with fail
    go_ret
    exact ⟨by first | (rw [HR.out.1]; rfl) | (rw [HR.out.2.1]; rfl) | (rw [HR.out.2.2]; rfl), hB⟩)
end Go.Proofs.Ytbgoopmmdbhogaa
