/-
  impl.AddTensors. (Made by mktenc.py.)
-/
import Derived.Test.YtcmpeoijedddjaaTen7Add
import Derived.Test.YtcmpeoijedddjaaTenB
namespace Go.Proofs.Ytcmpeoijedddjaa
open Go.RowKit
set_option maxRecDepth 100000
theorem alC_impl_Tensor {o : Oper} {a : Act} {w : World} (ho : o.op = .alloc 26) : (execOp a.eval o).run Try.prog w = .ok (.value (.pointer (some ⟨w.heap.size, 0, none⟩))) (w.alloc (.cells #[.int .i64 0, .int .i64 0, .int .i64 0, .int .i64 0, .slice none 0 0] 26 (0, 0))) := by
  unfold execOp
  rw [ho]
  kernel_rfl
theorem OwnI.ne_lt {w : World} {lo g : Nat} {v : Value} {xs : List Int} (h : OwnI w lo v xs) (hg : g < lo) : some g ≠ v.ownBlock := fun e => by
  have := (h.lt e.symm).1
  omega
def adCode (p a b c : Int) (xs : List Int) (q d e f : Int) (ys : List Int) (kk : Int) : Int :=
  if ckCode p a b c xs q d e f ys = 0 then (if (a == d && (b == e && c == f)) = true ∧ inB kk p = true then 0 else 2) else ckCode p a b c xs q d e f ys
def adZ (p a b c : Int) (xs : List Int) (q d e f : Int) (ys : List Int) (kk x : Int) : Int := if adCode p a b c xs q d e f ys kk = 0 then x else 0
def adR (p a b c : Int) (xs : List Int) (q d e f : Int) (ys : List Int) (kk : Int) : List Int := if adCode p a b c xs q d e f ys kk = 0 then genL b.toNat c.toNat p (addF b.toNat c.toNat kk xs ys) (a.toNat * b.toNat * c.toNat) else []
theorem ckCode_cases (p a b c : Int) (xs : List Int) (q d e f : Int) (ys : List Int) : ckCode p a b c xs q d e f ys = 1 ∨ ckCode p a b c xs q d e f ys = 2 ∨ (ckCode p a b c xs q d e f ys = 0 ∧ tenB p a b c xs = true ∧ tenB q d e f ys = true ∧ p = q) := by
  unfold ckCode
  split
  · rename_i h1
    split
    · rename_i h2
      split
      · rename_i h3
        exact .inr (.inr ⟨rfl, h1, h2, h3⟩)
      · exact .inr (.inl rfl)
    · exact .inl rfl
  · exact .inl rfl
end Go.Proofs.Ytcmpeoijedddjaa
