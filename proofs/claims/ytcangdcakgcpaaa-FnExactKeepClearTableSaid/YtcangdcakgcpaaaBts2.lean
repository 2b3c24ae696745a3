/- Boats of the laws as boats of the program, rows of them; comparing and marking them (chapter 10's laws). -/
import Derived.Test.YtcangdcakgcpaaaBts
import Derived.Deep.DeepCutAuto
namespace Go.Proofs.Ytcangdcakgcpaaa.Bts
open Go.ChangeShapes Go.WideShapes Go.ChangeAt Go.RowKit Go.PlainAid
open Go.Proofs.Ytcangdcakgcpaaa.Num Go.Proofs.Ytcangdcakgcpaaa.Kit Go.Proofs.Ytcangdcakgcpaaa.Pts Go.Proofs.Ytcangdcakgcpaaa.Seg Go.Proofs.Ytcangdcakgcpaaa.Hul
open Go.Proofs.Ytcangdcakgcpaaa.Mnv (set_other RelE)
set_option linter.unusedVariables false
set_option linter.unusedSimpArgs false

theorem Box.sixc {w : World} {n : Nat} {x y z u r s : Value} (h : Box w n [x, y, z, u, r, s]) : (w.cell? ⟨n, 0, none⟩ = some x ∧ w.cell? ⟨n, 1, none⟩ = some y ∧ w.cell? ⟨n, 2, none⟩ = some z ∧ w.cell? ⟨n, 3, none⟩ = some u ∧ w.cell? ⟨n, 4, none⟩ = some r ∧ w.cell? ⟨n, 5, none⟩ = some s) ∧
    w.frozen? ⟨n, 0, none⟩ = false ∧ w.frozen? ⟨n, 1, none⟩ = false ∧ w.frozen? ⟨n, 2, none⟩ = false ∧ w.frozen? ⟨n, 3, none⟩ = false ∧ w.frozen? ⟨n, 4, none⟩ = false ∧ w.frozen? ⟨n, 5, none⟩ = false :=
  ⟨⟨(h 0 x rfl).1, (h 1 y rfl).1, (h 2 z rfl).1, (h 3 u rfl).1, (h 4 r rfl).1, (h 5 s rfl).1⟩, (h 0 x rfl).2, (h 1 y rfl).2, (h 2 z rfl).2, (h 3 u rfl).2, (h 4 r rfl).2, (h 5 s rfl).2⟩
theorem tb_done {n : Nat} {w F : World} {tmps : Array Value} {a b c d e : Int} {s : Bool} (B : Box F n [.int .i64 a, .int .i64 b, .int .i64 c, .int .i64 d, .int .i64 e, .bool s]) (hC : Ext w F) (h1 : tmps[2]? = some (.pointer (some ⟨n, 0, none⟩))) :
    bodyPost Try.prog Try.f31 (fun x w' => x = .returned (.agg #[.int .i64 a, .int .i64 b, .int .i64 c, .int .i64 d, .int .i64 e, .bool s]) ∧ Ext w w') Exit.ret ⟨tmps, []⟩ F := by
  obtain ⟨⟨g0, g1, g2, g3, g4, g5⟩, _⟩ := Box.sixc B
  exact bodyPost_ret (v := .agg #[.int .i64 a, .int .i64 b, .int .i64 c, .int .i64 d, .int .i64 e, .bool s]) (by simp [results, Try.results31, go_sem, h1, g0, g1, g2, g3, g4, g5]) rfl ⟨rfl, hC⟩

abbrev L6 (a b c d n : Int) (s : Bool) : List Value := [.int .i64 a, .int .i64 b, .int .i64 c, .int .i64 d, .int .i64 n, .bool s]
set_option maxHeartbeats 2000000 in
theorem toBoat_any (a b c d n : Int) (s : Bool) (w : World) : Calls Try.prog 31 #[.agg #[.int .i64 a, .int .i64 b, .int .i64 c, .int .i64 d, .int .i64 n, .bool s]] w fun e w' => e = .returned (.agg #[.int .i64 a, .int .i64 b, .int .i64 c, .int .i64 d, .int .i64 n, .bool s]) ∧ Ext w w' := by
  obtain ⟨W0, hW0⟩ : ∃ W0, W0 = ((w.alloc (.cells #[.int .i64 a, .int .i64 b, .int .i64 c, .int .i64 d, .int .i64 n, .bool s] 66)).alloc (.cells #[.int .i64 0, .int .i64 0, .int .i64 0, .int .i64 0, .int .i64 0, .bool false] 41)).alloc (.cells #[.int .i64 0, .int .i64 0, .int .i64 0, .int .i64 0, .int .i64 0, .bool false] 41) := ⟨_, rfl⟩
  have X0 : BX w (w.heap.size + 3) [(w.heap.size, L6 a b c d n s), (w.heap.size + 1, L6 0 0 0 0 0 false), (w.heap.size + 1 + 1, L6 0 0 0 0 0 false)] W0 :=
    hW0 ▸ (((BX.nil w (w.heap.size + 3)).add (L6 a b c d n s) 66 rfl (by omega)).add (L6 0 0 0 0 0 false) 41 (by simp) (by omega)).add (L6 0 0 0 0 0 false) 41 (by simp) (by omega)
  obtain ⟨⟨f0, f1, f2, f3, f4, f5⟩, _⟩ := Box.sixc (X0.box 0 _ rfl)
  go_enter Try.func31, Try.ntmps31
  go_wp2_with fail
  rw [← hW0]
  clear hW0
  refine (toHull_any _ _ _ _ _ _).mono ?_
  rintro e w1 ⟨rfl, hy⟩
  have X1 := X0.ext hy
  obtain ⟨⟨v0, v1, v2, v3, v4, v5⟩, u0, u1, u2, u3, u4, u5⟩ := Box.sixc (X1.box 2 _ rfl)
  clear f0 f1 f2 f3 f4 f5 X0 hy
  obtain ⟨W1, hW1⟩ : ∃ W1, W1 = ((((w1.setCell ⟨w.heap.size + 1 + 1, 0, none⟩ (.int .i64 a)).setCell ⟨w.heap.size + 1 + 1, 1, none⟩ (.int .i64 b)).setCell ⟨w.heap.size + 1 + 1, 2, none⟩ (.int .i64 c)).setCell ⟨w.heap.size + 1 + 1, 3, none⟩ (.int .i64 d)).setCell ⟨w.heap.size + 1 + 1, 4, none⟩ (.int .i64 n) := ⟨_, rfl⟩
  have X2 := hW1 ▸ ((((X1.put 2 0 rfl (by simp) (.int .i64 a)).put 2 1 rfl (by simp) (.int .i64 b)).put 2 2 rfl (by simp) (.int .i64 c)).put 2 3 rfl (by simp) (.int .i64 d)).put 2 4 rfl (by simp) (.int .i64 n)
  go_upto_region 3 with fail
  rw [← hW1]
  clear hW1 v0 v1 v2 v3 v4 v5 u0 u1 u2 u3 u4 u5 X1
  obtain ⟨⟨_, _, _, _, _, f5⟩, _⟩ := Box.sixc (X2.box 0 _ rfl)
  obtain ⟨⟨v0, v1, v2, v3, v4, v5⟩, u0, u1, u2, u3, u4, u5⟩ := Box.sixc (X2.box 2 _ rfl)
  obtain ⟨W3, hW3⟩ : ∃ W3, W3 = W1.setCell ⟨w.heap.size + 1 + 1, 5, none⟩ (.bool s) := ⟨_, rfl⟩
  have X5 := hW3 ▸ X2.put 2 5 rfl (by simp) (.bool s)
  go_upto_region 4 with fail
  rw [← hW3]
  clear hW3 v0 v1 v2 v3 v4 v5 u0 u1 u2 u3 u4 u5 X2 f5
  obtain ⟨⟨v0, v1, v2, v3, v4, v5⟩, u0, u1, u2, u3, u4, u5⟩ := Box.sixc (X5.box 2 _ rfl)
  obtain ⟨⟨r0, r1, r2, r3, r4, r5⟩, s0, s1, s2, s3, s4, s5⟩ := Box.sixc (X5.box 1 _ rfl)
  have X6 := (((((X5.put 1 0 rfl (by simp) (.int .i64 a)).put 1 1 rfl (by simp) (.int .i64 b)).put 1 2 rfl (by simp) (.int .i64 c)).put 1 3 rfl (by simp) (.int .i64 d)).put 1 4 rfl (by simp) (.int .i64 n)).put 1 5 rfl (by simp) (.bool s)
  go_wp2
  exact tb_done (X6.box 1 _ rfl) (X6.to (Ext.refl w) (by omega)) rfl

set_option maxHeartbeats 1000000 in
theorem eqBoat_same (a b c d n : Int) (s : Bool) (w : World) : Calls Try.prog 71 #[.agg #[.int .i64 a, .int .i64 b, .int .i64 c, .int .i64 d, .int .i64 n, .bool s], .agg #[.int .i64 a, .int .i64 b, .int .i64 c, .int .i64 d, .int .i64 n, .bool s]] w fun e w' => e = .returned (.bool true) ∧ Ext w w' := by
  obtain ⟨W0, hW0⟩ : ∃ W0, W0 = (w.alloc (.cells #[.int .i64 a, .int .i64 b, .int .i64 c, .int .i64 d, .int .i64 n, .bool s] 41)).alloc (.cells #[.int .i64 a, .int .i64 b, .int .i64 c, .int .i64 d, .int .i64 n, .bool s] 41) := ⟨_, rfl⟩
  have hX : Ext w W0 := hW0 ▸ (((Ext.refl w).alloc _).alloc _)
  have hs0 : W0.heap.size = w.heap.size + 1 + 1 := by rw [hW0]; simp
  have e00 : ∀ w', (Ext W0) w' → w'.cell? ⟨w.heap.size, 0, none⟩ = some (.int .i64 a) := fun w' h => h.cellOf (by rw [hW0]; exact ((Ext.refl _).alloc _).cellOf (boxed 0 rfl (by simp)))
  have e01 : ∀ w', (Ext W0) w' → w'.cell? ⟨w.heap.size, 1, none⟩ = some (.int .i64 b) := fun w' h => h.cellOf (by rw [hW0]; exact ((Ext.refl _).alloc _).cellOf (boxed 1 rfl (by simp)))
  have e02 : ∀ w', (Ext W0) w' → w'.cell? ⟨w.heap.size, 2, none⟩ = some (.int .i64 c) := fun w' h => h.cellOf (by rw [hW0]; exact ((Ext.refl _).alloc _).cellOf (boxed 2 rfl (by simp)))
  have e03 : ∀ w', (Ext W0) w' → w'.cell? ⟨w.heap.size, 3, none⟩ = some (.int .i64 d) := fun w' h => h.cellOf (by rw [hW0]; exact ((Ext.refl _).alloc _).cellOf (boxed 3 rfl (by simp)))
  have e04 : ∀ w', (Ext W0) w' → w'.cell? ⟨w.heap.size, 4, none⟩ = some (.int .i64 n) := fun w' h => h.cellOf (by rw [hW0]; exact ((Ext.refl _).alloc _).cellOf (boxed 4 rfl (by simp)))
  have e05 : ∀ w', (Ext W0) w' → w'.cell? ⟨w.heap.size, 5, none⟩ = some (.bool s) := fun w' h => h.cellOf (by rw [hW0]; exact ((Ext.refl _).alloc _).cellOf (boxed 5 rfl (by simp)))
  have e10 : ∀ w', (Ext W0) w' → w'.cell? ⟨w.heap.size + 1, 0, none⟩ = some (.int .i64 a) := fun w' h => h.cellOf (by rw [hW0]; exact boxed 0 rfl (by simp))
  have e11 : ∀ w', (Ext W0) w' → w'.cell? ⟨w.heap.size + 1, 1, none⟩ = some (.int .i64 b) := fun w' h => h.cellOf (by rw [hW0]; exact boxed 1 rfl (by simp))
  have e12 : ∀ w', (Ext W0) w' → w'.cell? ⟨w.heap.size + 1, 2, none⟩ = some (.int .i64 c) := fun w' h => h.cellOf (by rw [hW0]; exact boxed 2 rfl (by simp))
  have e13 : ∀ w', (Ext W0) w' → w'.cell? ⟨w.heap.size + 1, 3, none⟩ = some (.int .i64 d) := fun w' h => h.cellOf (by rw [hW0]; exact boxed 3 rfl (by simp))
  have e14 : ∀ w', (Ext W0) w' → w'.cell? ⟨w.heap.size + 1, 4, none⟩ = some (.int .i64 n) := fun w' h => h.cellOf (by rw [hW0]; exact boxed 4 rfl (by simp))
  have e15 : ∀ w', (Ext W0) w' → w'.cell? ⟨w.heap.size + 1, 5, none⟩ = some (.bool s) := fun w' h => h.cellOf (by rw [hW0]; exact boxed 5 rfl (by simp))
  cases s
  all_goals
    go_enter Try.func71, Try.ntmps71
    go_wp2_with fail
    rw [← hW0]
    refine (eqHull_same _ _ _ _ _ _).mono ?_
    rintro e w1 ⟨rfl, hz⟩
    have g05 := e05 w1 hz; have g15 := e15 w1 hz
    go_wp2
    go_ret
    exact ⟨rfl, hX.trans hz⟩

/-- What is left of a bound behind a slice's length. -/
def szB (m : Int) (len : Nat) : Int := if m - len < 0 then -1 else m - len
theorem szB_neg {m : Int} {len : Nat} (h : m - len < 0) : szB m len = -1 := if_pos h
theorem szB_pos {m : Int} {len : Nat} (h : ¬ m - len < 0) : szB m len = m - len := if_neg h
theorem szBoatS_any (a : Option Addr) (len cap : Nat) (m : Int) (w : World) (hl : len ≤ maxLen) (h0 : 0 ≤ m) (hm : m ≤ 1048576) :
    Calls Try.prog 33 #[.slice a len cap, .int .i64 m] w fun e w' => e = .returned (.int .i64 (szB m len)) ∧ w = w' := by
  unfold maxLen at hl
  by_cases h : m - len < 0
  · have H := Lib.hid (szB_neg h)
    go_enter Try.func33, Try.ntmps33
    go_wp2
    go_ret
    exact ⟨ret_int H.out, rfl⟩
  · have H := Lib.hid (szB_pos h)
    go_enter Try.func33, Try.ntmps33
    go_wp2
    go_ret
    exact ⟨ret_int H.out, rfl⟩

/-- A boat lies in a list of cells. -/
def BIn (L : List Value) (o : Nat) (p : B6) : Prop := ∀ j u, p.cells[j]? = some u → L[o + j]? = some u
def set6L (L : List Value) (o : Nat) (a b c d n s : Value) : List Value := (((((L.set o a).set (o + 1) b).set (o + 2) c).set (o + 3) d).set (o + 4) n).set (o + 5) s
theorem set6L_len (L : List Value) (o : Nat) (a b c d n s : Value) : (set6L L o a b c d n s).length = L.length := by simp [set6L]
theorem set6L_off {L : List Value} {o i : Nat} {a b c d n s : Value} (h : i < o ∨ o + 5 < i) : (set6L L o a b c d n s)[i]? = L[i]? := by
  unfold set6L
  rw [List.getElem?_set_ne (by omega), List.getElem?_set_ne (by omega), List.getElem?_set_ne (by omega), List.getElem?_set_ne (by omega), List.getElem?_set_ne (by omega), List.getElem?_set_ne (by omega)]
theorem set6L_in {L : List Value} {o : Nat} (p : B6) (h : o + 6 ≤ L.length) : BIn (set6L L o (.int .i64 p.a) (.int .i64 p.b) (.int .i64 p.c) (.int .i64 p.d) (.int .i64 p.n) (.bool p.s)) o p := by
  intro j u hj
  have hjl : j < 6 := (List.getElem?_eq_some_iff.1 hj).1
  unfold set6L
  rcases (show j = 0 ∨ j = 1 ∨ j = 2 ∨ j = 3 ∨ j = 4 ∨ j = 5 by omega) with rfl | rfl | rfl | rfl | rfl | rfl
  all_goals
    simp [B6.cells] at hj
    subst hj
    simp [List.getElem?_set]
    omega
theorem BIn.off {L : List Value} {o k : Nat} {p : B6} {a b c d n s : Value} (h : BIn L o p) (hk : o + 6 ≤ k) : BIn (set6L L k a b c d n s) o p := by
  intro j u hj
  have hjl : j < 6 := (List.getElem?_eq_some_iff.1 hj).1
  rw [set6L_off (.inl (by omega))]
  exact h j u hj
theorem Box.set6 {w : World} {B o : Nat} {L : List Value} (h : Box w B L) (ho : o + 6 ≤ L.length) (a b c d n s : Value) :
    Box ((((((w.setCell ⟨B, o, none⟩ a).setCell ⟨B, o + 1, none⟩ b).setCell ⟨B, o + 2, none⟩ c).setCell ⟨B, o + 3, none⟩ d).setCell ⟨B, o + 4, none⟩ n).setCell ⟨B, o + 5, none⟩ s) B (set6L L o a b c d n s) :=
  (((((h.set o (by omega) a).set (o + 1) (by simp; omega) b).set (o + 2) (by simp; omega) c).set (o + 3) (by simp; omega) d).set (o + 4) (by simp; omega) n).set (o + 5) (by simp; omega) s
theorem Box.at6 {w : World} {B o : Nat} {L : List Value} (h : Box w B L) (ho : o + 6 ≤ L.length) (j : Nat) (hj : j < 6) : (∃ v, w.cell? ⟨B, o + j, none⟩ = some v) ∧ w.frozen? ⟨B, o + j, none⟩ = false :=
  ⟨⟨_, (h (o + j) _ (List.getElem?_eq_getElem (by omega))).1⟩, (h (o + j) _ (List.getElem?_eq_getElem (by omega))).2⟩

/-- What toBoatS leaves: a new row of the same boats. -/
def NewB (w : World) (bs : List B6) (e : Ending) (w' : World) : Prop := ∃ B L, e = .returned (.slice (some ⟨B, 0, none⟩) bs.length bs.length) ∧ w.heap.size ≤ B ∧ L.length = bs.length * 6 ∧ Box w' B L ∧ (∀ i, i < bs.length → BIn L (i * 6) (bx bs i)) ∧ Ext w w'
theorem bts_of {w : World} {B : Nat} {L : List Value} {bs : List B6} (h : Box w B L) (hi : ∀ i, i < bs.length → BIn L (i * 6) (bx bs i)) (hl : bs.length ≤ maxLen) : Bts w (some ⟨B, 0, none⟩) bs :=
  ⟨hl, .inr ⟨B, 0, rfl, fun i hib j u hj => by rw [Nat.zero_add]; exact (h _ _ (hi i hib j u hj)).1⟩⟩
def RelT6 (w : World) (bs : List B6) (i : Value) (wr : World) : Prop :=
  ∃ (k : Nat) (L : List Value), i = .int .i64 k ∧ k ≤ bs.length ∧ L.length = bs.length * 6 ∧ Box wr w.heap.size L ∧ (∀ j, j < k → BIn L (j * 6) (bx bs j)) ∧ Ext w wr
theorem RelT6.step {w w2 : World} {bs : List B6} {k : Nat} {L : List Value} (hk : k < bs.length) (hL : L.length = bs.length * 6) (hB : Box w2 w.heap.size L) (hd : ∀ j, j < k → BIn L (j * 6) (bx bs j)) (hx : Ext w w2) :
    RelT6 w bs (.int .i64 (k + 1)) ((((((w2.setCell ⟨w.heap.size, k * 6, none⟩ (.int .i64 (bx bs k).a)).setCell ⟨w.heap.size, k * 6 + 1, none⟩ (.int .i64 (bx bs k).b)).setCell ⟨w.heap.size, k * 6 + 2, none⟩ (.int .i64 (bx bs k).c)).setCell ⟨w.heap.size, k * 6 + 3, none⟩ (.int .i64 (bx bs k).d)).setCell ⟨w.heap.size, k * 6 + 4, none⟩ (.int .i64 (bx bs k).n)).setCell ⟨w.heap.size, k * 6 + 5, none⟩ (.bool (bx bs k).s)) := by
  refine ⟨k + 1, _, by go_num, by omega, ?_, Box.set6 hB (by omega) _ _ _ _ _ _, fun j hj => ?_, ?_⟩
  · rw [set6L_len]; exact hL
  · by_cases e : j = k
    · subst e; exact set6L_in _ (by omega)
    · exact (hd j (by omega)).off (by omega)
  · exact (((((hx.setNew (Nat.le_refl _) _).setNew (Nat.le_refl _) _).setNew (Nat.le_refl _) _).setNew (Nat.le_refl _) _).setNew (Nat.le_refl _) _).setNew (Nat.le_refl _) _

theorem boatInfo : (Try.prog.info? 41).map (fun i => (i.zero, i.size, i.bytes)) = some (some (.agg #[.int .i64 0, .int .i64 0, .int .i64 0, .int .i64 0, .int .i64 0, .bool false]), 6, 48) := by kernel_rfl
theorem made6 {w' : World} {e : TypeId} {n b g : Nat} {z : Value} (h : w'.ownsRow b e 6 (.slice (some ⟨g, 0, none⟩) n n) n (madeCells z.cells (n * 6)).toList) : Box w' g (madeCells z.cells (n * 6)).toList := by
  intro j v hj
  have hjl := (List.getElem?_eq_some_iff.1 hj).1
  have hjn : j < n * 6 := by simpa [size_madeCells] using hjl
  exact ⟨by rw [h.cellAt j hjn]; exact hj, h.frozenAt j⟩
theorem grown_none6 {w w' : World} (h : w.grownBy w' none) : Ext w w' := by
  obtain ⟨h1, h2, h3, h4, h5⟩ := h
  exact ⟨h1, h2, h3, h4, fun i hi => h5 i hi (by simp)⟩

set_option maxHeartbeats 2000000 in
theorem toBoatS_any (a : Option Addr) (cap : Nat) (bs : List B6) (w : World) (hf : Bts w a bs) (hl : bs.length ≤ 1048576) : Calls Try.prog 34 #[.slice a bs.length cap] w (NewB w bs) := by
  have HF := Lib.hid hf
  have hm : bs.length ≤ 1000000000 := by omega
  clear hf hl
  obtain ⟨i0, hi, hz0, hz1, hz2⟩ := info_parts boatInfo
  go_enter Try.func34, Try.ntmps34
  go_wp2_with (at_make; refine wpList_make_full _ rfl _ _ 26 rfl w.heap.size 41 i0 (.agg #[.int .i64 0, .int .i64 0, .int .i64 0, .int .i64 0, .int .i64 0, .bool false]) 6 Try.underlying26 hi hz0 hz1 _ _ _ _ bs.length rfl rfl rfl rfl (by rw [hz2]; omega) (by unfold maxLen; omega) (Nat.le_refl _) ?_; intro w1 hown hgrow)
  have HO := Lib.hid (made6 hown)
  have HG := Lib.hid (grown_none6 hgrow)
  clear hown hgrow
  go_loopw [4] (fun i wr => RelT6 w bs i wr) (fun i _ => bs.length - (intOf i).toNat)
  case atStart => exact ⟨0, _, rfl, Nat.zero_le _, by simp [size_madeCells], HO.out, fun j hj => absurd hj (by omega), HG.out⟩
  case round =>
    obtain ⟨k, L, rfl, hk, hL, hc, hd, hx⟩ := hrel
    have HC := Lib.hid hc
    have HD := Lib.hid hd
    have HX := Lib.hid hx
    have HL := Lib.hid hL
    clear hc hd hx hL
    by_cases hk1 : k < bs.length
    · obtain ⟨b, off, rfl, hb⟩ := HF.out.row (by omega)
      obtain ⟨c0, c1, c2, c3, c4, c5⟩ := ((hb k hk1).ext HX.out).six
      clear hb
      go_wp2_with fail
      refine (toBoat_any _ _ _ _ _ _ _).mono ?_
      rintro e w2 ⟨rfl, hy⟩
      have HB2 := Lib.hid (HC.out.ext hy)
      obtain ⟨⟨v0, d0⟩, f0⟩ := Box.at6 HB2.out (o := k * 6) (by have := HL.out; omega) 0 (by omega)
      obtain ⟨⟨v1, d1⟩, f1⟩ := Box.at6 HB2.out (o := k * 6) (by have := HL.out; omega) 1 (by omega)
      obtain ⟨⟨v2, d2⟩, f2⟩ := Box.at6 HB2.out (o := k * 6) (by have := HL.out; omega) 2 (by omega)
      obtain ⟨⟨v3, d3⟩, f3⟩ := Box.at6 HB2.out (o := k * 6) (by have := HL.out; omega) 3 (by omega)
      obtain ⟨⟨v4, d4⟩, f4⟩ := Box.at6 HB2.out (o := k * 6) (by have := HL.out; omega) 4 (by omega)
      obtain ⟨⟨v5, d5⟩, f5⟩ := Box.at6 HB2.out (o := k * 6) (by have := HL.out; omega) 5 (by omega)
      rw [Nat.add_zero] at d0 f0
      have HY := Lib.hid (HX.out.trans hy)
      clear hy c0 c1 c2 c3 c4 c5
      go_wp2
      go_roundw
      case rel => exact RelT6.step hk1 HL.out HB2.out HD.out HY.out
      case measure => simp [intOf]; omega
    · obtain rfl : k = bs.length := by omega
      go_wp2
      go_ret
      exact ⟨w.heap.size, L, rfl, Nat.le_refl _, HL.out, HC.out, HD.out, HX.out⟩

set_option maxHeartbeats 2000000 in
theorem eqBoatS_same (a b : Option Addr) (cap cap' : Nat) (bs : List B6) (w : World) (ha : Bts w a bs) (hb : Bts w b bs) : Calls Try.prog 36 #[.slice a bs.length cap, .slice b bs.length cap'] w fun e w' => e = .returned (.bool true) ∧ Ext w w' := by
  have hm := ha.1
  unfold maxLen at hm
  have HA := Lib.hid ha
  have HB := Lib.hid hb
  clear ha hb
  go_enter Try.func36, Try.ntmps36
  go_wp2
  go_loopw [5] (fun i wr => RelE w bs.length i wr) (fun i _ => bs.length - (intOf i).toNat)
  case atStart => exact ⟨0, rfl, Nat.zero_le _, Ext.refl _⟩
  case round =>
    obtain ⟨k, rfl, hk, hx⟩ := hrel
    have HX := Lib.hid hx
    clear hx
    by_cases hk1 : k < bs.length
    · obtain ⟨b1, o1, rfl, h1⟩ := HA.out.row (by omega)
      obtain ⟨b2, o2, rfl, h2⟩ := HB.out.row (by omega)
      have p0 := (h1 k hk1).ext HX.out
      have q0 := (h2 k hk1).ext HX.out
      clear h1 h2
      have e0 : ∀ w', Ext wr w' → w'.cell? ⟨b1, o1 + k * 6, none⟩ = some (.int .i64 (bx bs k).a) := fun w' h => (p0.ext h).six.1
      have e1 : ∀ w', Ext wr w' → w'.cell? ⟨b1, o1 + k * 6 + 1, none⟩ = some (.int .i64 (bx bs k).b) := fun w' h => (p0.ext h).six.2.1
      have e2 : ∀ w', Ext wr w' → w'.cell? ⟨b1, o1 + k * 6 + 2, none⟩ = some (.int .i64 (bx bs k).c) := fun w' h => (p0.ext h).six.2.2.1
      have e3 : ∀ w', Ext wr w' → w'.cell? ⟨b1, o1 + k * 6 + 3, none⟩ = some (.int .i64 (bx bs k).d) := fun w' h => (p0.ext h).six.2.2.2.1
      have e4 : ∀ w', Ext wr w' → w'.cell? ⟨b1, o1 + k * 6 + 4, none⟩ = some (.int .i64 (bx bs k).n) := fun w' h => (p0.ext h).six.2.2.2.2.1
      have e5 : ∀ w', Ext wr w' → w'.cell? ⟨b1, o1 + k * 6 + 5, none⟩ = some (.bool (bx bs k).s) := fun w' h => (p0.ext h).six.2.2.2.2.2
      have g0 : ∀ w', Ext wr w' → w'.cell? ⟨b2, o2 + k * 6, none⟩ = some (.int .i64 (bx bs k).a) := fun w' h => (q0.ext h).six.1
      have g1 : ∀ w', Ext wr w' → w'.cell? ⟨b2, o2 + k * 6 + 1, none⟩ = some (.int .i64 (bx bs k).b) := fun w' h => (q0.ext h).six.2.1
      have g2 : ∀ w', Ext wr w' → w'.cell? ⟨b2, o2 + k * 6 + 2, none⟩ = some (.int .i64 (bx bs k).c) := fun w' h => (q0.ext h).six.2.2.1
      have g3 : ∀ w', Ext wr w' → w'.cell? ⟨b2, o2 + k * 6 + 3, none⟩ = some (.int .i64 (bx bs k).d) := fun w' h => (q0.ext h).six.2.2.2.1
      have g4 : ∀ w', Ext wr w' → w'.cell? ⟨b2, o2 + k * 6 + 4, none⟩ = some (.int .i64 (bx bs k).n) := fun w' h => (q0.ext h).six.2.2.2.2.1
      have g5 : ∀ w', Ext wr w' → w'.cell? ⟨b2, o2 + k * 6 + 5, none⟩ = some (.bool (bx bs k).s) := fun w' h => (q0.ext h).six.2.2.2.2.2
      clear p0 q0
      have i0 : (0 : Int) ≤ (k : Int) := by omega
      have i1 : (k : Int) < (bs.length : Int) := by omega
      generalize bx bs k = p at *
      go_wp2_with fail
      refine wp_region_held_drew (S := (fun w' => Ext wr w')) (by kernel_rfl) (by (try dsimp only); first | go_keep | exact (Ext.refl _).drew | exact Res.new2.drew | exact Res.new4.drew | exact ResB.drew (by assumption) | exact ResC.drew (by assumption) | assumption | exact Ext.drew (by assumption) | exact Res.drew (by assumption)) (fun hHeld => ?_)
      refine Ord.K 0 17 ?_
      refine Ord.K 1 18 ?_
      refine Ord.K 2 19 ?_
      refine Ord.K 3 20 ?_
      refine Ord.K 4 21 ?_
      refine Ord.K 5 22 ?_
      refine Ord.K 6 23 ?_
      refine Ord.K 7 24 ?_
      (refine wpAnyH_ready (rs := [8]) (by kernel_rfl) (by simp) ?_; refine AllReadyH.cons rfl (fun K hK => ?_) AllReadyH.nil; go_simp; (go_at_call 71; refine (eqBoat_same _ _ _ _ _ _ _).mono ?_; rintro e wy ⟨rfl, hy⟩); go_wp2_with fail; (refine hK.out _ _ (by first | assumption | exact Ext.trans (by assumption) hy | exact Res.ext (by assumption) hy | exact ResB.ext (by assumption) hy | exact ResC.ext (by assumption) hy | (go_split_ands; (repeat' apply And.intro) <;> exact Ext.cellOf hy (by assumption))) (fun hHeld => ?_)); clear hK K; (try simp only [Act.put, Ord.a, Ord.b, Ord.c]))
      refine Ord.K 9 26 ?_
      refine wpAnyH_done (by kernel_rfl) ?_ _
      have HX2 := Lib.hid (HX.out.trans (by assumption : Ext wr wy))
      go_wp2
      go_roundw
      case rel => exact ⟨k + 1, by go_num, by omega, HX2.out⟩
      case measure => simp [intOf]; omega
    · obtain rfl : k = bs.length := by omega
      go_wp2
      go_ret
      exact ⟨rfl, HX.out⟩

def RelMB (w : World) (B n : Nat) (k : Int) (s i : Value) (wr : World) : Prop :=
  ∃ (j : Nat) (L : List Value), i = .int .i64 j ∧ s = .int .i64 (k + 6 * j) ∧ j ≤ n ∧ L.length = n * 6 ∧ Box wr B L ∧ Chg B w wr
theorem RelMB.step {w wr : World} {B n j : Nat} {k K : Int} {L : List Value} (hj : j < n) (hL : L.length = n * 6) (hB : Box wr B L) (hx : Chg B w wr) (a b c d e s : Value) (hK : K = k + 6 * (j : Int) + 6) :
    RelMB w B n k (.int .i64 K) (.int .i64 ((j : Int) + 1)) ((((((wr.setCell ⟨B, j * 6, none⟩ a).setCell ⟨B, j * 6 + 1, none⟩ b).setCell ⟨B, j * 6 + 2, none⟩ c).setCell ⟨B, j * 6 + 3, none⟩ d).setCell ⟨B, j * 6 + 4, none⟩ e).setCell ⟨B, j * 6 + 5, none⟩ s) :=
  ⟨j + 1, _, by go_num, by rw [hK]; congr 1; omega, by omega, by rw [set6L_len]; exact hL, Box.set6 hB (by omega) _ _ _ _ _ _, (((((hx.setCell _ _).setCell _ _).setCell _ _).setCell _ _).setCell _ _).setCell _ _⟩

set_option maxHeartbeats 4000000 in
theorem markBoatS_any (B cap n : Nat) (k : Int) (L : List Value) (w : World) (hL : L.length = n * 6) (hB : Box w B L) (hn : n ≤ 1048576) (k0 : 0 ≤ k) (k1 : k ≤ 1000) :
    Calls Try.prog 37 #[.slice (some ⟨B, 0, none⟩) n cap, .int .i64 k] w fun e w' => e = .returned (.int .i64 (k + 6 * n)) ∧ Chg B w w' := by
  have HB := Lib.hid hB
  have HL := Lib.hid hL
  clear hB hL
  go_enter Try.func37, Try.ntmps37
  go_wp2
  go_loopw [1, 5] (fun s i wr => RelMB w B n k s i wr) (fun s i _ => n - (intOf i).toNat)
  case atStart => exact ⟨0, L, rfl, by simp, Nat.zero_le _, HL.out, HB.out, Chg.refl _ _⟩
  case round =>
    obtain ⟨j, M, rfl, rfl, hj, hM, hb, hx⟩ := hrel
    have HM := Lib.hid hM
    have HB2 := Lib.hid hb
    have HX := Lib.hid hx
    clear hM hb hx
    by_cases hj1 : j < n
    · obtain ⟨⟨v0, d0⟩, f0⟩ := Box.at6 HB2.out (o := j * 6) (by have := HM.out; omega) 0 (by omega)
      obtain ⟨⟨v1, d1⟩, f1⟩ := Box.at6 HB2.out (o := j * 6) (by have := HM.out; omega) 1 (by omega)
      obtain ⟨⟨v2, d2⟩, f2⟩ := Box.at6 HB2.out (o := j * 6) (by have := HM.out; omega) 2 (by omega)
      obtain ⟨⟨v3, d3⟩, f3⟩ := Box.at6 HB2.out (o := j * 6) (by have := HM.out; omega) 3 (by omega)
      obtain ⟨⟨v4, d4⟩, f4⟩ := Box.at6 HB2.out (o := j * 6) (by have := HM.out; omega) 4 (by omega)
      obtain ⟨⟨v5, d5⟩, f5⟩ := Box.at6 HB2.out (o := j * 6) (by have := HM.out; omega) 5 (by omega)
      rw [Nat.add_zero] at d0 f0
      have i0 : (0 : Int) ≤ (j : Int) := by omega
      have i1 : (j : Int) < (n : Int) := by omega
      have T0 : IntKind.i64.wrap ((j : Int) + 1) = (j : Int) + 1 := IntWalk.i64_in _ (by omega)
      obtain ⟨K, hK⟩ : ∃ K, K = k + 6 * (j : Int) := ⟨_, rfl⟩
      have T1 : IntKind.i64.wrap (K + 1) = K + 1 := IntWalk.i64_in _ (by omega)
      have T2 : IntKind.i64.wrap (K + 1 + 1) = K + 1 + 1 := IntWalk.i64_in _ (by omega)
      have T3 : IntKind.i64.wrap (K + 1 + 1 + 1) = K + 1 + 1 + 1 := IntWalk.i64_in _ (by omega)
      have T4 : IntKind.i64.wrap (K + 1 + 1 + 1 + 1) = K + 1 + 1 + 1 + 1 := IntWalk.i64_in _ (by omega)
      have T5 : IntKind.i64.wrap (K + 1 + 1 + 1 + 1 + 1) = K + 1 + 1 + 1 + 1 + 1 := IntWalk.i64_in _ (by omega)
      have T6 : IntKind.i64.wrap (K + 1 + 1 + 1 + 1 + 1 + 1) = K + 1 + 1 + 1 + 1 + 1 + 1 := IntWalk.i64_in _ (by omega)
      have HK := Lib.hid hK
      rw [← hK]
      clear hK
      have z0 : decide ((j : Int) < (n : Int)) = true := decide_eq_true i1
      go_wp2
      go_roundw
      case rel => exact RelMB.step hj1 HM.out HB2.out HX.out _ _ _ _ _ _ (by rw [HK.out]; omega)
      case measure => simp [intOf]; omega
    · obtain rfl : j = n := by omega
      go_wp2
      go_ret
      exact ⟨rfl, HX.out⟩

end Go.Proofs.Ytcangdcakgcpaaa.Bts
