/-
  spec.l05Side, SliceOf of both sides. (Made by mksl5.py.)
-/
import Derived.Test.YtebmkmkhfhmfbaaSl4
import Derived.Test.YtebmkmkhfhmfbaaTen4
namespace Go.Proofs.Ytebmkmkhfhmfbaa
open Go.RowKit
set_option maxRecDepth 100000
theorem exec_index_arr3 {P : Program} {o : Oper} {a : Act} {w : World} (ty e : TypeId) (x i : Operand) (ho : o.op = .index ty x i) (n k : Nat) (cs : Array Value) (v : Value) (hx : a.eval x = .agg cs) (hi : a.eval i = .int .i64 k)
    (hu : P.underlying ty = some (.array n e)) (d : TypeDesc) (he : P.underlying e = some d) (hd : (match d with | .struct _ | .array _ _ => true | _ => false) = false) (hs : (P.info? e).map (·.size) = some 1) (hk : k < n) (hv : cs[k]? = some v) :
    (execOp a.eval o).run P w = .ok (.value v) w := by
  obtain ⟨ie, hie, hse⟩ := Option.map_eq_some_iff.1 hs
  have hagg : (isAgg e).run P w = .ok false w := by
    unfold isAgg
    rw [Sem.run_bind, run_underlying he w]
    cases d <;> simp_all
  have h1 : (0 : Int) ≤ k ∧ (k : Int) < n := ⟨by omega, by omega⟩
  unfold execOp
  simp [ho, hx, hi, Instr.index, asIntOf, run_underlying hu, h1, sizeOf, typeInfo, hie, hse, part, hagg, hk, hv]
attribute [local irreducible] wpList
theorem ten_natsT {p a b d : Int} {xs : List Int} (h : tenB p a b d xs = true) : ∃ A B D : Nat, a = A ∧ b = B ∧ d = D := by
  unfold tenB sideB at h
  simp only [Bool.and_eq_true, decide_eq_true_eq] at h
  exact ⟨a.toNat, b.toNat, d.toNat, by omega, by omega, by omega⟩
def OwnP (w : World) (lo : Nat) (v : Value) (n : Nat) (row : Nat → List Int) : Prop := ∃ hi, hi ≤ w.heap.size ∧ OwnR w lo hi v n row
theorem OwnP.below {w w' : World} {lo n : Nat} {v : Value} {row : Nat → List Int} (h : OwnP w lo v n row) (hb : Below w.heap.size w w') : OwnP w' lo v n row := by
  obtain ⟨hi, h1, h2⟩ := h
  exact ⟨hi, Nat.le_trans h1 hb.size, h2.below hb⟩
theorem OwnP.drew {w : World} {lo n : Nat} {v : Value} {row : Nat → List Int} (h : OwnP w lo v n row) : OwnP w.drew lo v n row := h.below (Below.refl _ _).drew
theorem OwnP.of {w : World} {lo n : Nat} {v : Value} {row : Nat → List Int} (h : OwnR w lo w.heap.size v n row) : OwnP w lo v n row := ⟨_, Nat.le_refl _, h⟩
theorem OwnU.of {w : World} {lo n : Nat} {v : Value} {row : Nat → List Int} (h : OwnV w lo w.heap.size v n row) : OwnU w lo v n row := ⟨_, Nat.le_refl _, h⟩
def slOK (p a b d S T : Int) (xs : List Int) : Bool := tenB p a b d xs && (inB S 3 && inB T (if S = 0 then a else if S = 1 then b else d))
def slQ (p a b d S : Int) (xs : List Int) : Nat × Nat × Nat × List Int := trn p S.toNat (a.toNat, b.toNat, d.toNat, xs)
def slN (p a b d S T : Int) (xs : List Int) : Nat := if slOK p a b d S T xs = true then (slQ p a b d S xs).2.1 else 0
def slG (q : Nat × Nat × Nat × List Int) (t : Nat) : Nat → List Int := slR q.2.2.1 ((q.2.2.2.drop (t * (q.2.1 * q.2.2.1))).take (q.2.1 * q.2.2.1))
def slF (p a b d S T : Int) (xs : List Int) : Nat → List Int := slG (slQ p a b d S xs) T.toNat
def slCode (p a b d S T : Int) (xs : List Int) : Int := if tenB p a b d xs = true then (if slOK p a b d S T xs = true then 0 else 2) else 1
theorem sl_ok {p a b d S T : Int} {xs : List Int} : slN p a b d S T xs + tot (slF p a b d S T xs) (slN p a b d S T xs) ≤ 1048576 := by
  unfold slN
  split
  · next h =>
    unfold slOK at h
    rw [Bool.and_eq_true] at h
    obtain ⟨a, b, d, rfl, rfl, rfl⟩ := ten_natsT h.1
    have hS : inB S 3 = true := by
      have := h.2
      rw [Bool.and_eq_true] at this
      exact this.1
    have h3 : S = 0 ∨ S = 1 ∨ S = 2 := by simp [inB] at hS; omega
    have hq : (slQ p a b d S xs).2.1 ≤ 9 ∧ (slQ p a b d S xs).2.2.1 ≤ 9 := by
      have hd := (ten_parts h.1).2
      rcases h3 with rfl | rfl | rfl
      · exact ⟨hd.2.1.2, hd.2.2.1.2⟩
      · exact ⟨hd.2.2.1.2, hd.1.2⟩
      · exact ⟨hd.1.2, hd.2.1.2⟩
    have h5 := tot_le (row := slF p a b d S T xs) (n := (slQ p a b d S xs).2.1) (K := 9) (fun i _ => by simp only [slF, slG, slR, List.length_take]; omega)
    omega
  · simp [tot]
end Go.Proofs.Ytebmkmkhfhmfbaa
