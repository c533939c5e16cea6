/-
  spec.MakeProduct, impl.MakeProduct: what they answer where an argument is none.
-/
import Derived.Test.YtpoekhpchhmkaaaPln4
import Derived.Test.YtpoekhpchhmkaaaImplIs
import Derived.Test.YtpoekhpchhmkaaaFormAt
namespace Go.Proofs.Ytpoekhpchhmkaaa
open Go.RowKit
set_option maxRecDepth 100000
theorem wpList_load_sub {P : Program} {ops : Array Oper} {rest : List Oper} {o : Oper} {a : Act} {w : World} {Q : Exit → Act → World → Prop} (hgd : o.guard = none) (ty : TypeId) (x : Operand) (ho : o.op = .load ty x)
    (g off : Nat) (hx : a.eval x = .pointer (some ⟨g, off, none⟩)) (t : TypeId) (cs : Array Value) (d : TypeDesc) (n : Nat) (vs : Array Value) (hg : At w g (.cells cs t (0, 0)))
    (hu : P.underlying ty = some d) (hd : (match d with | .struct _ | .array _ _ => true | _ => false) = true) (hi : (P.info? ty).map (·.size) = some n) (hle : off + n ≤ cs.size) (hvs : cs.extract off (off + n) = vs)
    (h : wpList P ops Q rest (a.put o.dst (.agg vs)) w) : wpList P ops Q (o :: rest) a w := by
  subst hvs
  exact wpList_load_part hgd ty x ho g off hx t cs (0, 0) d n hg hu hd hi hle h
theorem exec_load_sub {P : Program} {o : Oper} {a : Act} {w : World} (ty : TypeId) (x : Operand) (ho : o.op = .load ty x)
    (g off : Nat) (hx : a.eval x = .pointer (some ⟨g, off, none⟩)) (t : TypeId) (cs : Array Value) (d : TypeDesc) (n : Nat) (vs : Array Value) (hg : At w g (.cells cs t (0, 0)))
    (hu : P.underlying ty = some d) (hd : (match d with | .struct _ | .array _ _ => true | _ => false) = true) (hi : (P.info? ty).map (·.size) = some n) (hle : off + n ≤ cs.size) (hvs : cs.extract off (off + n) = vs) :
    (execOp a.eval o).run P w = .ok (.value (.agg vs)) w := by
  subst hvs
  have hr := run_loadVar_part (P := P) w g off t ty cs (0, 0) d n hg hu hd hi hle
  unfold execOp
  simp only [ho, hx, Instr.loadAt, Instr.sureAddr, Sem.run_bind, Sem.run_pure, Result.andThen_ok, hr]
set_option maxHeartbeats 1600000 in
theorem specMakeProduct_no1 (p n m k : Int) (A0 : Option Addr) (c0 : Nat) (qs : List (List Nat)) (A B : Option Addr) (c1 c2 N M : Nat) (w : World) (hq : Rd w A0 qs) (hlen : qs.length ≤ 1048576) (R : Nat → List Int) (hno : schemeB p n m k qs = false) :
    Calls Try.prog 18 #[.agg #[.int .i64 p, .int .i64 n, .int .i64 m, .int .i64 k, .slice A0 qs.length c0], .slice A N c1, .slice B M c2] w (ResM w 0 R 1) := by
  have HS0 := fun w hq => l01Is_c p n m k A0 c0 qs w hq hlen
  rw [hno] at HS0
  have HS := Lib.hid HS0
  clear HS0
  go_enter Try.func18, Try.ntmps18
  go_wp2_with fail
  refine (HS.out _ (hq.keep (below1 _ _))).mono ?_
  rintro e w1 ⟨rfl, b1⟩
  have hB := below_after (below1 _ _) b1
  have ha := At.after (al1_0 _ _) b1
  clear b1
  go_wp2_with fail
  go_ret2
  exact ⟨_, rfl, OwnM.nil _ _ _ _, hB⟩
set_option maxHeartbeats 1600000 in
theorem specMakeProduct_no2 (p n m k : Int) (A0 : Option Addr) (c0 : Nat) (qs : List (List Nat)) (A B : Option Addr) (c1 c2 N M : Nat) (X Y : Nat → List Int) (w : World) (hq : Rd w A0 qs) (hlen : qs.length ≤ 1048576) (hX : RdM w A N X) (hY : RdM w B M Y) (hN : N ≤ 1048576) (hM : M ≤ 1048576) (hXl : ∀ i, i < N → (X i).length ≤ 1048576) (hYl : ∀ i, i < M → (Y i).length ≤ 1048576) (R : Nat → List Int) (hyes : schemeB p n m k qs = true) (hno : (matB p n m N X && matB p m k M Y) = false) :
    Calls Try.prog 18 #[.agg #[.int .i64 p, .int .i64 n, .int .i64 m, .int .i64 k, .slice A0 qs.length c0], .slice A N c1, .slice B M c2] w (ResM w 0 R 2) := by
  have hp : primeB p = true := by
    simp only [schemeB, Bool.and_eq_true] at hyes
    exact (sizesB_parts hyes.1.1).1
  have HS0 := fun w hq => l01Is_c p n m k A0 c0 qs w hq hlen
  rw [hyes] at HS0
  have HS := Lib.hid HS0
  have HX0 := fun w hX => l01Matrix_c p n m A c1 N X w hX hp hN hXl
  have HY0 := fun w hY => l01Matrix_c p m k B c2 M Y w hY hp hM hYl
  clear HS0
  cases h1 : matB p n m N X with
  | false =>
    rw [h1] at HX0
    have HX := Lib.hid HX0
    clear HX0 HY0
    go_enter Try.func18, Try.ntmps18
    go_wp2_with fail
    refine (HS.out _ (hq.keep (below1 _ _))).mono ?_
    rintro e w1 ⟨rfl, b1⟩
    have hB := below_after (below1 _ _) b1
    have ha := At.after (al1_0 _ _) b1
    clear b1
    have k0 : w1.cell? ⟨w.heap.size, 0, none⟩ = some (.int .i64 p) := ha.at_ 0
    have k1 : w1.cell? ⟨w.heap.size, 1, none⟩ = some (.int .i64 n) := ha.at_ 1
    have k2 : w1.cell? ⟨w.heap.size, 2, none⟩ = some (.int .i64 m) := ha.at_ 2
    have k3 : w1.cell? ⟨w.heap.size, 3, none⟩ = some (.int .i64 k) := ha.at_ 3
    go_wp2_with fail
    refine (HX.out _ (hX.keep hB)).mono ?_
    rintro e w2 ⟨rfl, rfl⟩
    go_wp2_with fail
    go_ret2
    exact ⟨_, rfl, OwnM.nil _ _ _ _, hB⟩
  | true =>
    rw [h1] at HX0 hno
    have h2 : matB p m k M Y = false := by simpa using hno
    rw [h2] at HY0
    have HX := Lib.hid HX0
    have HY := Lib.hid HY0
    clear HX0 HY0
    go_enter Try.func18, Try.ntmps18
    go_wp2_with fail
    refine (HS.out _ (hq.keep (below1 _ _))).mono ?_
    rintro e w1 ⟨rfl, b1⟩
    have hB := below_after (below1 _ _) b1
    have ha := At.after (al1_0 _ _) b1
    clear b1
    have k0 : w1.cell? ⟨w.heap.size, 0, none⟩ = some (.int .i64 p) := ha.at_ 0
    have k1 : w1.cell? ⟨w.heap.size, 1, none⟩ = some (.int .i64 n) := ha.at_ 1
    have k2 : w1.cell? ⟨w.heap.size, 2, none⟩ = some (.int .i64 m) := ha.at_ 2
    have k3 : w1.cell? ⟨w.heap.size, 3, none⟩ = some (.int .i64 k) := ha.at_ 3
    go_wp2_with fail
    refine (HX.out _ (hX.keep hB)).mono ?_
    rintro e w2 ⟨rfl, rfl⟩
    go_wp2_with fail
    refine (HY.out _ (hY.keep hB)).mono ?_
    rintro e w2 ⟨rfl, rfl⟩
    go_wp2_with fail
    go_ret2
    exact ⟨_, rfl, OwnM.nil _ _ _ _, hB⟩
set_option maxHeartbeats 1600000 in
theorem implMakeProduct_no1 (p n m k : Int) (A0 : Option Addr) (c0 : Nat) (qs : List (List Nat)) (A B : Option Addr) (c1 c2 N M : Nat) (w : World) (hq : Rd w A0 qs) (hlen : qs.length ≤ 1048576) (R : Nat → List Int) (hno : schemeB p n m k qs = false) :
    Calls Try.prog 20 #[.agg #[.int .i64 p, .int .i64 n, .int .i64 m, .int .i64 k, .slice A0 qs.length c0], .slice A N c1, .slice B M c2] w (ResM w 0 R 1) := by
  have HS0 := fun w hq => implIsScheme_c p n m k A0 c0 qs w hq hlen
  rw [hno] at HS0
  have HS := Lib.hid HS0
  clear HS0
  go_enter Try.func20, Try.ntmps20
  go_wp2_with fail
  refine (HS.out _ (hq.keep (below1 _ _))).mono ?_
  rintro e w1 ⟨rfl, b1⟩
  have hB := below_after (below1 _ _) b1
  have ha := At.after (al1_0 _ _) b1
  clear b1
  go_wp2_with fail
  go_ret2
  exact ⟨_, rfl, OwnM.nil _ _ _ _, hB⟩
set_option maxHeartbeats 1600000 in
theorem implMakeProduct_no2 (p n m k : Int) (A0 : Option Addr) (c0 : Nat) (qs : List (List Nat)) (A B : Option Addr) (c1 c2 N M : Nat) (X Y : Nat → List Int) (w : World) (hq : Rd w A0 qs) (hlen : qs.length ≤ 1048576) (hX : RdM w A N X) (hY : RdM w B M Y) (hN : N ≤ 1048576) (hM : M ≤ 1048576) (hXl : ∀ i, i < N → (X i).length ≤ 1048576) (hYl : ∀ i, i < M → (Y i).length ≤ 1048576) (R : Nat → List Int) (hyes : schemeB p n m k qs = true) (hno : (matB p n m N X && matB p m k M Y) = false) :
    Calls Try.prog 20 #[.agg #[.int .i64 p, .int .i64 n, .int .i64 m, .int .i64 k, .slice A0 qs.length c0], .slice A N c1, .slice B M c2] w (ResM w 0 R 2) := by
  have HS0 := fun w hq => implIsScheme_c p n m k A0 c0 qs w hq hlen
  rw [hyes] at HS0
  have HS := Lib.hid HS0
  have HX0 := fun w hX => isMatrix_c p n m A c1 N X w hX hN hXl
  have HY0 := fun w hY => isMatrix_c p m k B c2 M Y w hY hM hYl
  clear HS0
  cases h1 : matB p n m N X with
  | false =>
    rw [h1] at HX0
    have HX := Lib.hid HX0
    clear HX0 HY0
    go_enter Try.func20, Try.ntmps20
    go_wp2_with fail
    refine (HS.out _ (hq.keep (below1 _ _))).mono ?_
    rintro e w1 ⟨rfl, b1⟩
    have hB := below_after (below1 _ _) b1
    have ha := At.after (al1_0 _ _) b1
    clear b1
    go_wp2_with (refine wpList_load_all rfl 31 _ rfl w.heap.size rfl _ _ _ (by exact ha) Try.underlying31 rfl 5 (by kernel_rfl) rfl ?_)
    refine (shapesOf_c p n m k _ _).mono ?_
    rintro e w2 ⟨rfl, b2⟩
    replace hB := below_after hB b2
    replace ha := ha.after b2
    clear b2
    have hB3 := below1 w2 (.cells #[.int .i64 n, .int .i64 m, .int .i64 m, .int .i64 k, .int .i64 n, .int .i64 k] 72 (0, 0))
    have ha3 := ha.after hB3
    have hs3 := al1_0 w2 (.cells #[.int .i64 n, .int .i64 m, .int .i64 m, .int .i64 k, .int .i64 n, .int .i64 k] 72 (0, 0))
    have k0 : (w2.alloc (.cells #[.int .i64 n, .int .i64 m, .int .i64 m, .int .i64 k, .int .i64 n, .int .i64 k] 72 (0, 0))).cell? ⟨w.heap.size, 0, none⟩ = some (.int .i64 p) := ha3.at_ 0
    go_wp2_with (refine wpList_load_sub rfl 71 _ rfl w2.heap.size 0 rfl _ _ _ 2 #[.int .i64 n, .int .i64 m] (by exact hs3) Try.underlying71 rfl (by kernel_rfl) (by simp) rfl ?_)
    replace hB := below_after hB hB3
    refine (HX.out _ (hX.keep hB)).mono ?_
    rintro e w4 ⟨rfl, b4⟩
    replace hB := below_after hB b4
    go_wp2_with fail
    go_ret2
    exact ⟨_, rfl, OwnM.nil _ _ _ _, hB⟩
  | true =>
    rw [h1] at HX0 hno
    have h2 : matB p m k M Y = false := by simpa using hno
    rw [h2] at HY0
    have HX := Lib.hid HX0
    have HY := Lib.hid HY0
    clear HX0 HY0
    go_enter Try.func20, Try.ntmps20
    go_wp2_with fail
    refine (HS.out _ (hq.keep (below1 _ _))).mono ?_
    rintro e w1 ⟨rfl, b1⟩
    have hB := below_after (below1 _ _) b1
    have ha := At.after (al1_0 _ _) b1
    clear b1
    go_wp2_with (refine wpList_load_all rfl 31 _ rfl w.heap.size rfl _ _ _ (by exact ha) Try.underlying31 rfl 5 (by kernel_rfl) rfl ?_)
    refine (shapesOf_c p n m k _ _).mono ?_
    rintro e w2 ⟨rfl, b2⟩
    replace hB := below_after hB b2
    replace ha := ha.after b2
    clear b2
    have hB3 := below1 w2 (.cells #[.int .i64 n, .int .i64 m, .int .i64 m, .int .i64 k, .int .i64 n, .int .i64 k] 72 (0, 0))
    have ha3 := ha.after hB3
    have hs3 := al1_0 w2 (.cells #[.int .i64 n, .int .i64 m, .int .i64 m, .int .i64 k, .int .i64 n, .int .i64 k] 72 (0, 0))
    have k0 : (w2.alloc (.cells #[.int .i64 n, .int .i64 m, .int .i64 m, .int .i64 k, .int .i64 n, .int .i64 k] 72 (0, 0))).cell? ⟨w.heap.size, 0, none⟩ = some (.int .i64 p) := ha3.at_ 0
    go_wp2_with (refine wpList_load_sub rfl 71 _ rfl w2.heap.size 0 rfl _ _ _ 2 #[.int .i64 n, .int .i64 m] (by exact hs3) Try.underlying71 rfl (by kernel_rfl) (by simp) rfl ?_)
    replace hB := below_after hB hB3
    refine (HX.out _ (hX.keep hB)).mono ?_
    rintro e w4 ⟨rfl, b4⟩
    replace hB := below_after hB b4
    have hs4 := At.after hs3 b4
    have k4 : w4.cell? ⟨w.heap.size, 0, none⟩ = some (.int .i64 p) := (ha3.after b4).at_ 0
    go_wp2_with (refine wpList_want_exec rfl (exec_load_sub 71 _ rfl w2.heap.size 2 rfl _ _ _ 2 #[.int .i64 m, .int .i64 k] (by exact hs4) Try.underlying71 rfl (by kernel_rfl) (by simp) rfl) ?_)
    refine (HY.out _ (hY.keep hB)).mono ?_
    rintro e w5 ⟨rfl, b5⟩
    replace hB := below_after hB b5
    go_wp2_with fail
    go_ret2
    exact ⟨_, rfl, OwnM.nil _ _ _ _, hB⟩
end Go.Proofs.Ytpoekhpchhmkaaa
