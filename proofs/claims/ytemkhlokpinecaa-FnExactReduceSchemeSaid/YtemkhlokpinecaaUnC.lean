/-
  Unions: what the list behind them holds; a function value over one block; impl.schemeFor.
-/
import Derived.Test.YtemkhlokpinecaaUnB
namespace Go.Proofs.Ytemkhlokpinecaa
open Go.RowKit
set_option maxRecDepth 100000
def bN : Value → Nat
  | .bool true => 1
  | _ => 0
theorem exec_mkf1U {P : Program} {o : Oper} {a : Act} {w : World} (f : FuncId) (x : Operand) (ho : o.op = .makeFunc (.func f) #[] #[x]) (u : Value) (hx : a.eval x = u) : (execOp a.eval o).run P w = .ok (.value (.func (.func f) #[] #[u])) w := by
  subst hx
  unfold execOp
  simp only [ho]
  simp [go_sem]
theorem unK_ex {un : List Nat → List Nat → Option (List Nat)} {qs : List (List Nat)} {i : Nat} (hi : i < qs.length) {d : Nat} (hd : d ≤ qs.length) {X : List (List Nat)} (h : unK un qs i d = some X) : ∃ k q r one, qs[i]? = some q ∧ qs[k]? = some r ∧ un q r = some one ∧ X = stepL qs i k one := by
  induction d with
  | zero => cases h
  | succ d ih =>
    have hk : qs.length - (d + 1) < qs.length := by omega
    simp only [unK] at h
    split at h
    · rename_i one hu
      cases h
      rw [List.getElem?_eq_getElem hi, List.getElem?_eq_getElem hk, Option.getD_some, Option.getD_some] at hu
      exact ⟨_, _, _, one, List.getElem?_eq_getElem hi, List.getElem?_eq_getElem hk, hu, rfl⟩
    · exact ih (by omega) h
theorem unI_ex {un : List Nat → List Nat → Option (List Nat)} {qs : List (List Nat)} {d : Nat} (hd : d ≤ qs.length) {X : List (List Nat)} (h : unI un qs d = some X) : ∃ i k q r one, qs[i]? = some q ∧ qs[k]? = some r ∧ un q r = some one ∧ X = stepL qs i k one := by
  induction d with
  | zero => cases h
  | succ d ih =>
    simp only [unI] at h
    rcases hK : unK un qs (qs.length - (d + 1)) d with _ | Y
    · rw [hK] at h
      exact ih (by omega) h
    · rw [hK] at h
      cases h
      exact ⟨_, unK_ex (by omega) (by omega) hK⟩
theorem unN_facts {un : List Nat → List Nat → Option (List Nat)} {G : List Nat → Prop} {qs X : List (List Nat)} (hG : ∀ q ∈ qs, G q) (hu : ∀ q r one, G q → G r → un q r = some one → Bytes 27 one ∧ (nzB one = true → G one)) (h : unN un qs = some X) : X.length + 1 ≤ qs.length ∧ ∀ q ∈ X, G q := by
  obtain ⟨i, k, q, r, one, hi, hk, h1, rfl⟩ := unI_ex (Nat.le_refl _) h
  have hkl := (List.getElem?_eq_some_iff.1 hk).1
  refine ⟨stepL_len hkl, fun x hx => ?_⟩
  obtain ⟨hn, hx | rfl⟩ := stepL_mem hx
  · exact hG x hx
  · exact (hu q r x (hG q (List.mem_of_getElem? hi)) (hG r (List.mem_of_getElem? hk)) h1).2 hn
theorem unA_facts {un : List Nat → List Nat → Option (List Nat)} {G : List Nat → Prop} (hu : ∀ q r one, G q → G r → un q r = some one → Bytes 27 one ∧ (nzB one = true → G one)) (d : Nat) {qs : List (List Nat)} (hG : ∀ q ∈ qs, G q) : (unA un d qs).length ≤ qs.length ∧ ∀ q ∈ unA un d qs, G q := by
  induction d generalizing qs with
  | zero => exact ⟨Nat.le_refl _, hG⟩
  | succ d ih =>
    simp only [unA]
    rcases h : unN un qs with _ | X
    · exact ⟨Nat.le_refl _, hG⟩
    · have h1 := unN_facts hG hu h
      have h2 := ih h1.2
      exact ⟨by have := h1.1; have := h2.1; simp only; omega, h2.2⟩
theorem schemeForG_c (p n m k : Int) (A : Option Addr) (l c : Nat) (w : World) :
    Calls Try.prog 31 #[.int .i64 p, .agg #[.int .i64 n, .int .i64 m, .int .i64 k], .slice A l c] w fun e w' => e = .returned (.agg #[.int .i64 p, .int .i64 n, .int .i64 m, .int .i64 k, .slice A l c]) ∧ Below w.heap.size w w' := by
  go_enter Try.func31, Try.ntmps31
  go_wp2_with fail
  refine bodyPost_ret (results_at rfl _ _ (w.heap.size + 1) _ _ _ rfl (al2_1 _ _ _) Try.underlying28 rfl 5 (by kernel_rfl) rfl) rfl ?_
  exact ⟨rfl, below2 _ _ _⟩
/-- The length of the slice in the fifth cell of a block. -/
def lenW (w : World) (g : Nat) : Nat := match w.cell? ⟨g, 4, none⟩ with
  | some (.slice _ n _) => n
  | _ => 0
theorem lenW_at {w : World} {g n c : Nat} {p1 p2 p3 p4 : Value} {A : Option Addr} {t : TypeId} (h : At w g (.cells #[p1, p2, p3, p4, .slice A n c] t (0, 0))) : lenW w g = n := by
  have h4 : w.cell? ⟨g, 4, none⟩ = some (.slice A n c) := h.at_ 4
  unfold lenW
  rw [h4]
theorem united_cN (un : List Nat → List Nat → Option (List Nat)) (G : List Nat → Prop) (f : Nat) (caps : Array Value) (A : Option Addr) (c : Nat) (qs : List (List Nat)) (N : Nat) (hN : qs.length = N) (w : World) (hcall : ∀ args w, (callFunc f args).run Try.prog w = .ok (.enter f args) w) (hR : Rd w A qs) (hlen : N ≤ 1000) (hGb : ∀ q, G q → Bytes 27 q) (hGq : ∀ q ∈ qs, G q) (hGu : ∀ q r one, G q → G r → un q r = some one → Bytes 27 one ∧ (nzB one = true → G one)) (hU : ∀ q r w', Below w.heap.size w w' → G q → G r → Calls Try.prog f (#[.agg (u8s q), .agg (u8s r)] ++ caps) w' fun e w'' => e = .returned (unV (un q r)) ∧ Below w'.heap.size w' w'') :
    Calls Try.prog 27 #[.slice A N c, .func (.func f) #[] caps] w (fun e w' => ∃ v, e = .returned v ∧ Own w' w.heap.size v (unA un N qs) ∧ Below w.heap.size w w') := by
  subst hN
  exact united_c un G f caps A c qs w hcall hR hlen hGb hGq hGu hU
end Go.Proofs.Ytemkhlokpinecaa
