/-
  impl.PlainProduct.
-/
import Derived.Test.YtpoekhpchhmkaaaPln4
namespace Go.Proofs.Ytpoekhpchhmkaaa
open Go.RowKit
set_option maxRecDepth 100000
set_option maxHeartbeats 1600000 in
theorem implPlainProduct_no (p : Int) (A B : Option Addr) (c1 c2 n m : Nat) (X Y : Nat → List Int) (w : World) (hX : RdM w A n X) (hY : RdM w B m Y) (hn : n ≤ 1048576) (hm : m ≤ 1048576) (hXl : ∀ i, i < n → (X i).length ≤ 1048576) (hYl : ∀ i, i < m → (Y i).length ≤ 1048576) (R : Nat → List Int) (hno : plOk p n X m Y = false) :
    Calls Try.prog 25 #[.int .i64 p, .slice A n c1, .slice B m c2] w (ResM w 0 R 2) := by
  have HP0 := isPrime_c p
  have HX0 := fun w hX => isSmallMatrix_c p A c1 n X w hX hn hXl
  have HY0 := fun w hY => isSmallMatrix_c p B c2 m Y w hY hm hYl
  cases hp : primeB p with
  | false =>
    rw [hp] at HP0
    have HP := Lib.hid HP0
    clear HX0 HY0
    go_enter Try.func25, Try.ntmps25
    go_wp2_with fail
    refine (HP.out _).mono ?_
    rintro e w1 ⟨rfl, rfl⟩
    go_wp2_with fail
    go_ret2
    exact ⟨_, rfl, OwnM.nil _ _ _ _, Below.refl _ _⟩
  | true =>
    rw [hp] at HP0
    have HP := Lib.hid HP0
    cases hx : smallB p n X with
    | false =>
      rw [hx] at HX0
      have HX := Lib.hid HX0
      clear HY0
      go_enter Try.func25, Try.ntmps25
      go_wp2_with fail
      refine (HP.out _).mono ?_
      rintro e w1 ⟨rfl, rfl⟩
      go_wp2_with fail
      refine (HX.out _ hX).mono ?_
      rintro e w1 ⟨rfl, b1⟩
      go_wp2_with fail
      go_ret2
      exact ⟨_, rfl, OwnM.nil _ _ _ _, b1⟩
    | true =>
      rw [hx] at HX0
      have HX := Lib.hid HX0
      cases hy : smallB p m Y with
      | false =>
        rw [hy] at HY0
        have HY := Lib.hid HY0
        go_enter Try.func25, Try.ntmps25
        go_wp2_with fail
        refine (HP.out _).mono ?_
        rintro e w1 ⟨rfl, rfl⟩
        go_wp2_with fail
        refine (HX.out _ hX).mono ?_
        rintro e w1 ⟨rfl, b1⟩
        go_wp2_with fail
        refine (HY.out _ (hY.keep b1)).mono ?_
        rintro e w2 ⟨rfl, b2⟩
        have hB := below_after b1 b2
        go_wp2_with fail
        go_ret2
        exact ⟨_, rfl, OwnM.nil _ _ _ _, hB⟩
      | true =>
        rw [hy] at HY0
        have HY := Lib.hid HY0
        have hne : (colM n X != (m : Int)) = true := by
          have h7 : ¬ colM n X = (m : Int) := fun h7 => by simp [plOk, hp, hx, hy, h7] at hno
          simpa using h7
        have HSX := Lib.hid (fun w hX => shapeOfRows_c A c1 n X w hX hn hXl)
        have HSY := Lib.hid (fun w hY => shapeOfRows_c B c2 m Y w hY hm hYl)
        generalize colM n X = cX at *
        generalize colM m Y = cY at *
        go_enter Try.func25, Try.ntmps25
        go_wp2_with fail
        refine (HP.out _).mono ?_
        rintro e w1 ⟨rfl, rfl⟩
        go_wp2_with fail
        refine (HX.out _ hX).mono ?_
        rintro e w1 ⟨rfl, b1⟩
        go_wp2_with fail
        refine (HY.out _ (hY.keep b1)).mono ?_
        rintro e w2 ⟨rfl, b2⟩
        have hB := below_after b1 b2
        go_wp2_with fail
        refine (HSX.out _ (hX.keep hB)).mono ?_
        rintro e w3 ⟨rfl, b3⟩
        have hB3 := below_after hB b3
        go_wp2_with fail
        refine (HSY.out _ (hY.keep hB3)).mono ?_
        rintro e w4 ⟨rfl, b4⟩
        have hB4 := below_after hB3 b4
        go_wp2_with fail
        go_ret2
        exact ⟨_, rfl, OwnM.nil _ _ _ _, below_after hB4 (below2 _ _ _)⟩
def rowsM (p : Int) (X Y : Nat → List Int) (M K a : Nat) (R : List Int) (x : Nat) : List Int := if x < a then plRow p X Y M K x else if x = a then R else List.replicate K 0
theorem rowsM_at (p : Int) (X Y : Nat → List Int) (M K a : Nat) (R : List Int) : rowsM p X Y M K a R a = R := by simp [rowsM]
theorem rowsM_ne (p : Int) (X Y : Nat → List Int) (M K a : Nat) (R R' : List Int) (x : Nat) (h : x ≠ a) : rowsM p X Y M K a R x = rowsM p X Y M K a R' x := by simp [rowsM, h]
theorem rowsM_next (p : Int) (X Y : Nat → List Int) (M K a x : Nat) : rowsM p X Y M K (a + 1) (List.replicate K 0) x = rowsM p X Y M K a (plRow p X Y M K a) x := by
  unfold rowsM
  by_cases h : x < a
  · rw [if_pos h, if_pos (by omega)]
  · by_cases e : x = a
    · subst e
      rw [if_pos (by omega), if_neg h, if_pos rfl]
    · rw [if_neg (by omega), if_neg h, if_neg e]
      split <;> rfl
theorem rowsM_len (p : Int) (X Y : Nat → List Int) (M K a : Nat) (R : List Int) (hR : R.length = K) (x : Nat) : (rowsM p X Y M K a R x).length = K := by
  unfold rowsM
  split
  · exact mapRow_len _ _
  · split
    · exact hR
    · simp
def iRow (p : Int) (X Y : Nat → List Int) (M K a l j : Nat) : List Int := mapRow K fun z => if z < l then plAt p X Y a z M else if z = l then plAt p X Y a z j else 0
theorem iRow_start (p : Int) (X Y : Nat → List Int) (M K a : Nat) : iRow p X Y M K a 0 0 = List.replicate K 0 := by
  rw [mapRow_zero]
  refine mapRow_congr fun z _ => ?_
  rw [if_neg (by omega)]
  split <;> rfl
theorem iRow_next (p : Int) (X Y : Nat → List Int) (M K a l : Nat) : iRow p X Y M K a l M = iRow p X Y M K a (l + 1) 0 := by
  refine mapRow_congr fun z _ => ?_
  by_cases e : z = l
  · subst e
    rw [if_neg (by omega), if_pos rfl, if_pos (by omega)]
  · by_cases h : z < l
    · rw [if_pos h, if_pos (by omega)]
    · rw [if_neg h, if_neg e, if_neg (by omega)]
      split <;> rfl
theorem iRow_end (p : Int) (X Y : Nat → List Int) (M K a : Nat) : iRow p X Y M K a K 0 = plRow p X Y M K a := mapRow_congr fun z hz => by rw [if_pos hz]
theorem iRow_set (p : Int) (X Y : Nat → List Int) (M K a l j : Nat) : (iRow p X Y M K a l j).set l (plAt p X Y a l (j + 1)) = iRow p X Y M K a l (j + 1) := by
  unfold iRow
  rw [mapRow_set]
  refine mapRow_congr fun z _ => ?_
  by_cases e : z = l
  · subst e
    rw [if_pos rfl, if_neg (by omega), if_pos rfl]
  · rw [if_neg e]
    by_cases h : z < l
    · rw [if_pos h, if_pos h]
    · rw [if_neg h, if_neg e, if_neg h, if_neg e]
theorem iRow_len (p : Int) (X Y : Nat → List Int) (M K a l j : Nat) : (iRow p X Y M K a l j).length = K := mapRow_len _ _
theorem iRow_get (p : Int) (X Y : Nat → List Int) (M K a l j : Nat) (h : l < K) : (iar (iRow p X Y M K a l j))[l]? = some (.int .i64 (plAt p X Y a l j)) := by
  unfold iRow
  rw [mapRow_get _ h, if_neg (Nat.lt_irrefl l), if_pos rfl]
/-- What the loops keep: the two shapes' boxes, the matrix that is made. -/
structure PK (w0 wz : World) (s : Nat) (n M K : Nat) (g : Nat) (cs : Array Value) (gs : Nat → Nat) (p : Int) (X Y : Nat → List Int) (a : Nat) (R : List Int) (wr : World) : Prop where
  below : Below w0.heap.size w0 wr
  b1 : At wr s (.cells #[.int .i64 n, .int .i64 M] 71 (0, 0))
  mat : MatB wr w0.heap.size wr.heap.size g cs gs n (rowsM p X Y M K a R)
  ne : ∀ i, i < n → s ≠ gs i ∧ w0.heap.size ≤ gs i
theorem PK.put {w0 wz wr w' : World} {s n M K g : Nat} {cs : Array Value} {gs : Nat → Nat} {p : Int} {X Y : Nat → List Int} {a : Nat} {R R' : List Int} (h : PK w0 wz s n M K g cs gs p X Y a R wr) (ha : a < n) (hR : R.length = K) (hR' : R'.length = K)
    (pp : Put wr w' (gs a) (.cells (iar R') 2 (0, 0))) : PK w0 wz s n M K g cs gs p X Y a R' w' := by
  have hs : w'.heap.size = wr.heap.size := pp.size rfl
  have h1 := h.ne a ha
  refine ⟨pp.below h.below h1.2, pp.other h.b1 h1.1, ?_, h.ne⟩
  rw [hs]
  exact h.mat.put ha (fun x hx => rowsM_ne _ _ _ _ _ _ _ _ _ hx) (by rw [rowsM_at, rowsM_at, hR, hR']) (by rw [rowsM_at]; exact pp.at_) (fun x o hx ho => pp.other ho hx)
theorem PK.congr {w0 wz wr : World} {s n M K g : Nat} {cs : Array Value} {gs : Nat → Nat} {p : Int} {X Y : Nat → List Int} {a : Nat} {R : List Int} (h : PK w0 wz s n M K g cs gs p X Y a R wr) {a' : Nat} {R' : List Int} (he : ∀ i, i < n → rowsM p X Y M K a' R' i = rowsM p X Y M K a R i) : PK w0 wz s n M K g cs gs p X Y a' R' wr :=
  ⟨h.below, h.b1, h.mat.congr he, h.ne⟩
set_option maxHeartbeats 3200000 in
theorem implPlainProduct_yes (p : Int) (A B : Option Addr) (c1 c2 n m : Nat) (X Y : Nat → List Int) (w : World) (hX : RdM w A n X) (hY : RdM w B m Y) (hn : n ≤ 1048576) (hm : m ≤ 1048576) (hXl : ∀ i, i < n → (X i).length ≤ 1048576) (hYl : ∀ i, i < m → (Y i).length ≤ 1048576) (hok : plOk p n X m Y = true) :
    Calls Try.prog 25 #[.int .i64 p, .slice A n c1, .slice B m c2] w (ResM w n (plRow p X Y m (Y 0).length) 0) := by
  obtain ⟨hp, hn1, hn3, hm1, hm3, hk1, hk3, h1, h2, hx0⟩ := plOk_parts hok
  have hsX : smallB p n X = true := by simp only [plOk, Bool.and_eq_true] at hok; exact hok.1.1.2
  have hsY : smallB p m Y = true := by simp only [plOk, Bool.and_eq_true] at hok; exact hok.1.2
  have HP0 := isPrime_c p
  have HX0 := fun w hX => isSmallMatrix_c p A c1 n X w hX hn hXl
  have HY0 := fun w hY => isSmallMatrix_c p B c2 m Y w hY hm hYl
  rw [hp] at HP0
  rw [hsX] at HX0
  rw [hsY] at HY0
  have HP := Lib.hid HP0
  have HX := Lib.hid HX0
  have HY := Lib.hid HY0
  have HSX0 := fun w hX => shapeOfRows_c A c1 n X w hX hn hXl
  have HSY0 := fun w hY => shapeOfRows_c B c2 m Y w hY hm hYl
  rw [colM_pos hn1, hx0] at HSX0
  rw [colM_pos hm1] at HSY0
  have HSX := Lib.hid HSX0
  have HSY := Lib.hid HSY0
  have HZ := Lib.hid (fun w => zeroMatrix_c n (Y 0).length w (by omega) (by omega))
  have hne : (((m : Nat) : Int) != ((m : Nat) : Int)) = false := by simp
  have hpp : 0 < p ∧ p ≤ 5 := by
    simp only [primeB, Bool.or_eq_true, beq_iff_eq] at hp
    omega
  have hp0 : p ≠ 0 := by omega
  have HXr : Hid (∀ i, i < n → (X i).length = m ∧ ∀ x ∈ X i, 0 ≤ x ∧ x < p) := Lib.hid (fun i hi => ⟨by have := ((matB_parts h1).2 i hi).1; omega, ((matB_parts h1).2 i hi).2⟩)
  have HYr : Hid (∀ i, i < m → (Y i).length = (Y 0).length ∧ ∀ x ∈ Y i, 0 ≤ x ∧ x < p) := Lib.hid (fun i hi => ⟨by have := ((matB_parts h2).2 i hi).1; omega, ((matB_parts h2).2 i hi).2⟩)
  clear HP0 HX0 HY0 HSX0 HSY0 hok h1 h2 hsX hsY hx0 hp
  generalize (Y 0).length = K at *
  generalize hM : m = M at *
  go_enter Try.func25, Try.ntmps25
  go_wp2_with fail
  refine (HP.out _).mono ?_
  rintro e w1 ⟨rfl, rfl⟩
  go_wp2_with fail
  refine (HX.out _ hX).mono ?_
  rintro e w1 ⟨rfl, b1⟩
  go_wp2_with fail
  refine (HY.out _ (hY.keep b1)).mono ?_
  rintro e w2 ⟨rfl, b2⟩
  have hB := below_after b1 b2
  go_wp2_with fail
  refine (HSX.out _ (hX.keep hB)).mono ?_
  rintro e w3 ⟨rfl, b3⟩
  have hB3 := below_after hB b3
  go_wp2_with fail
  refine (HSY.out _ (hY.keep hB3)).mono ?_
  rintro e w4 ⟨rfl, b4⟩
  have hB4 := below_after hB3 b4
  go_wp2_with fail
  have a8 := al2_0 w4 (.cells #[.int .i64 n, .int .i64 M] 71 (0, 0)) (.cells #[.int .i64 M, .int .i64 K] 71 (0, 0))
  have hB5 := below_after hB4 (below2 w4 (.cells #[.int .i64 n, .int .i64 M] 71 (0, 0)) (.cells #[.int .i64 M, .int .i64 K] 71 (0, 0)))
  have hs5 := size_al2 w4 (.cells #[.int .i64 n, .int .i64 M] 71 (0, 0)) (.cells #[.int .i64 M, .int .i64 K] 71 (0, 0))
  have hs4 := hB4.size
  refine (HZ.out _).mono ?_
  rintro e wz ⟨v, rfl, oM, bz⟩
  rcases oM with ⟨_, h0⟩ | ⟨g, cM, cs, gs, rfl, hMat⟩
  · omega
  have hPK : PK w wz w4.heap.size n M K g cs gs p X Y 0 (List.replicate K 0) wz := ⟨below_after hB5 bz, At.after a8 bz, ⟨hMat.out, ⟨by have := hMat.og.1; omega, hMat.og.2⟩, fun i hi => by rw [rowsM_len _ _ _ _ _ _ _ (by simp)]; simpa using hMat.cell i hi, fun i hi => by
      have hr := hMat.row i hi
      have e : rowsM p X Y M K 0 (List.replicate K 0) i = List.replicate K 0 := by unfold rowsM; rw [if_neg (by omega)]; split <;> rfl
      rw [e]
      exact ⟨hr.1, by omega, hr.2.2⟩, hMat.inj⟩, fun i hi => by have hr := hMat.row i hi; omega⟩
  clear hMat bz a8 hB5
  go_wp2_with fail
  go_loopw [47] (fun iv wr => ∃ a : Nat, a ≤ n ∧ iv = .int .i64 a ∧ PK w wz w4.heap.size n M K g cs gs p X Y a (List.replicate K 0) wr) (fun iv _ => n - (intOf iv).toNat)
  case atStart => exact ⟨0, by omega, rfl, hPK⟩
  case round =>
    clear hPK
    obtain ⟨a, ha, rfl, hPK⟩ := hrel
    by_cases hlt : a < n
    · have e0 : IntKind.i64.wrap ((a : Int) + 1) = (a : Int) + 1 := IntWalk.i64_in _ (by omega)
      have hk' : (a : Int) < (n : Int) := by omega
      have hca := hPK.mat.cell a hlt
      rw [rowsM_at, List.length_replicate] at hca
      have hc0 : wr.cell? ⟨g, a, none⟩ = some (.slice (some ⟨gs a, 0, none⟩) K K) := by rw [hPK.mat.out.at_ a, hca]
      go_wp2_with fail
      go_loopw [54] (fun iv wr => ∃ l : Nat, l ≤ K ∧ iv = .int .i64 l ∧ PK w wz w4.heap.size n M K g cs gs p X Y a (iRow p X Y M K a l 0) wr) (fun iv _ => K - (intOf iv).toNat)
      case atStart => exact ⟨0, by omega, rfl, by rw [iRow_start]; exact hPK⟩
      case round =>
        clear hPK hca hc0
        obtain ⟨l, hl, rfl, hPK⟩ := hrel
        by_cases hlt3 : l < K
        · have g0 : IntKind.i64.wrap ((l : Int) + 1) = (l : Int) + 1 := IntWalk.i64_in _ (by omega)
          have hl' : (l : Int) < (K : Int) := by omega
          have hc81 : wr.cell? ⟨w4.heap.size, 1, none⟩ = some (.int .i64 M) := hPK.b1.at_ 1
          go_wp2_with fail
          go_loopw [59] (fun iv wr => ∃ j : Nat, j ≤ M ∧ iv = .int .i64 j ∧ PK w wz w4.heap.size n M K g cs gs p X Y a (iRow p X Y M K a l j) wr) (fun iv _ => M - (intOf iv).toNat)
          case atStart => exact ⟨0, by omega, rfl, hPK⟩
          case round =>
            clear hPK hc81
            obtain ⟨j, hj, rfl, hPK⟩ := hrel
            by_cases hlt2 : j < M
            · have f0 : IntKind.i64.wrap ((j : Int) + 1) = (j : Int) + 1 := IntWalk.i64_in _ (by omega)
              have hj' : (j : Int) < (M : Int) := by omega
              have hBw := hPK.below
              obtain ⟨b1, off1, BX, cx, rfl, hcx, hIx⟩ := (hX.keep hBw).at_ hlt
              obtain ⟨b2, off2, BY, cy, rfl, hcy, hIy⟩ := (hY.keep hBw).at_ hlt2
              obtain ⟨b3, off3, rfl, hx⟩ := hIx.at_ (i := j) (by rw [(HXr.out a hlt).1]; exact hlt2)
              obtain ⟨b4, off4, rfl, hy⟩ := hIy.at_ (i := l) (by rw [(HYr.out j hlt2).1]; exact hlt3)
              have hjx : j < (X a).length := by rw [(HXr.out a hlt).1]; exact hlt2
              have hly : l < (Y j).length := by rw [(HYr.out j hlt2).1]; exact hlt3
              have bx := (HXr.out a hlt).2 _ (List.getElem_mem hjx)
              have bY := (HYr.out j hlt2).2 _ (List.getElem_mem hly)
              have bs : 0 ≤ plAt p X Y a l j ∧ plAt p X Y a l j < p := dot_in _ hpp.1 j
              have hAl := (hPK.mat.row a hlt).1
              rw [rowsM_at] at hAl
              have hcs : wr.cell? ⟨gs a, l, none⟩ = some (.int .i64 (plAt p X Y a l j)) := by
                rw [hAl.at_ l, iRow_get _ _ _ _ _ _ _ _ hlt3]
              have Hst : Hid (plAt p X Y a l (j + 1) = (plAt p X Y a l j + (X a)[j] * (Y j)[l]) % p) := Lib.hid (by
                rw [plAt_step, List.getElem?_eq_getElem hjx, List.getElem?_eq_getElem hly]
                rfl)
              have Hset := Lib.hid (iRow_set p X Y M K a l j)
              rw [Hst.out] at Hset
              obtain ⟨w1, w2, w3⟩ := rem_in hpp.1 hpp.2 bs bx bY
              generalize (X a)[j] = x at *
              generalize (Y j)[l] = y at *
              generalize hs : plAt p X Y a l j = s at hcs w1 w2 w3 bs Hst Hset
              generalize (X a).length = lx at *
              generalize (Y j).length = ly at *
              go_wp2_with fail
              refine wp_region_still_tail (P := Try.prog) 25 (by kernel_rfl) (by kernel_rfl) ?_
              simp only [List.take_succ_cons, List.take_zero, List.drop_succ_cons, List.drop_zero]
              refine wpStill_of_exec rfl (exec_move _ rfl (.slice (some ⟨gs a, 0, none⟩) K K) rfl) ?_
              go_frame
              refine wpStill_of_exec rfl (exec_move _ rfl (.int .i64 l) rfl) ?_
              go_frame
              refine wpStill_of_exec rfl (exec_move _ rfl (.slice (some ⟨gs a, 0, none⟩) K K) rfl) ?_
              go_frame
              refine wpStill_of_exec rfl (exec_move _ rfl (.int .i64 l) rfl) ?_
              go_frame
              refine wpStill_of_exec rfl (exec_index0 _ 2 _ _ rfl (gs a) K K l rfl rfl Try.underlying66 (by kernel_rfl) hlt3) ?_
              go_frame
              refine wpStill_of_exec rfl (exec_load_one 2 _ rfl (gs a) l rfl (.int .i64 s) _ Try.underlying2 rfl hcs) ?_
              go_frame
              refine wpStill_of_exec rfl (exec_move _ rfl (.slice (some ⟨b1, off1, none⟩) n c1) rfl) ?_
              go_frame
              refine wpStill_of_exec rfl (exec_move _ rfl (.int .i64 a) rfl) ?_
              go_frame
              refine wpStill_of_exec rfl (exec_index1 _ 66 _ _ rfl b1 off1 n c1 a rfl rfl Try.underlying44 (by kernel_rfl) hlt) ?_
              go_frame
              refine wpStill_of_exec rfl (exec_load_one 66 _ rfl b1 (off1 + a) rfl (.slice (some ⟨b3, off3, none⟩) lx cx) _ Try.underlying66 rfl hcx) ?_
              go_frame
              refine wpStill_of_exec rfl (exec_move _ rfl (.int .i64 j) rfl) ?_
              go_frame
              refine wpStill_of_exec rfl (exec_index1 _ 2 _ _ rfl b3 off3 lx cx j rfl rfl Try.underlying66 (by kernel_rfl) hjx) ?_
              go_frame
              refine wpStill_of_exec rfl (exec_load_one 2 _ rfl b3 (off3 + j) rfl (.int .i64 x) _ Try.underlying2 rfl hx) ?_
              go_frame
              refine wpStill_of_exec rfl (exec_move _ rfl (.slice (some ⟨b2, off2, none⟩) M c2) rfl) ?_
              go_frame
              refine wpStill_of_exec rfl (exec_move _ rfl (.int .i64 j) rfl) ?_
              go_frame
              refine wpStill_of_exec rfl (exec_index1 _ 66 _ _ rfl b2 off2 M c2 j rfl rfl Try.underlying44 (by kernel_rfl) hlt2) ?_
              go_frame
              refine wpStill_of_exec rfl (exec_load_one 66 _ rfl b2 (off2 + j) rfl (.slice (some ⟨b4, off4, none⟩) ly cy) _ Try.underlying66 rfl hcy) ?_
              go_frame
              refine wpStill_of_exec rfl (exec_move _ rfl (.int .i64 l) rfl) ?_
              go_frame
              refine wpStill_of_exec rfl (exec_index1 _ 2 _ _ rfl b4 off4 ly cy l rfl rfl Try.underlying66 (by kernel_rfl) hly) ?_
              go_frame
              refine wpStill_of_exec rfl (exec_load_one 2 _ rfl b4 (off4 + l) rfl (.int .i64 y) _ Try.underlying2 rfl hy) ?_
              go_frame
              refine wpStill_of_exec rfl (exec_mul _ _ _ _ rfl x y (x * y) rfl rfl w1) ?_
              go_frame
              refine wpStill_of_exec rfl (exec_add _ _ _ _ rfl s (x * y) (s + x * y) rfl rfl w2) ?_
              go_frame
              refine wpStill_of_exec rfl (exec_move _ rfl (.int .i64 p) rfl) ?_
              go_frame
              refine wpStill_of_exec rfl (exec_rem _ _ _ _ rfl (s + x * y) p ((s + x * y) % p) rfl rfl hp0 w3) ?_
              go_frame
              refine wpStill_of_exec rfl (exec_index0 _ 2 _ _ rfl (gs a) K K l rfl rfl Try.underlying66 (by kernel_rfl) hlt3) ?_
              go_frame
              refine wpStill_nil ?_
              go_wp2_with (refine wpList_store_one rfl 2 _ _ rfl rfl (gs a) l rfl (.int .i64 ((s + x * y) % p)) rfl rfl rfl _ _ (At.drewN hAl 1) (by kernel_rfl) (by rw [iar_size, iRow_len]; exact hlt3) ?_; intro w5 p5)
              rw [iar_set, Hset.out] at p5
              have hPK5 : PK w wz w4.heap.size n M K g cs gs p X Y a (iRow p X Y M K a l (j + 1)) w5 := PK.put (wr := wr.drewN 1) ⟨below_drawn hPK.below 1, hPK.b1, hPK.mat.below (below_drawn (Below.refl _ _) 1), hPK.ne⟩ hlt (iRow_len _ _ _ _ _ _ _ _) (iRow_len _ _ _ _ _ _ _ _) p5
              go_roundw
              case rel => exact ⟨j + 1, by omega, by go_num, hPK5⟩
              case measure => simp [intOf]; omega
            · obtain rfl : j = M := by omega
              rw [iRow_next] at hPK
              go_wp2_with fail
              go_roundw
              case rel => exact ⟨l + 1, by omega, by go_num, hPK⟩
              case measure => simp [intOf]; omega
        · obtain rfl : l = K := by omega
          rw [iRow_end] at hPK
          have hPK2 := hPK.congr (a' := a + 1) (R' := List.replicate l 0) (fun i _ => rowsM_next p X Y M l a i)
          go_wp2_with fail
          go_roundw
          case rel => exact ⟨a + 1, by omega, by go_num, hPK2⟩
          case measure => simp [intOf]; omega
    · obtain rfl : a = n := by omega
      go_wp2_with fail
      go_ret2
      exact ⟨_, rfl, .inr ⟨g, cM, cs, gs, rfl, hPK.mat.congr fun i hi => by unfold rowsM; rw [if_pos hi]⟩, hPK.below⟩
end Go.Proofs.Ytpoekhpchhmkaaa
