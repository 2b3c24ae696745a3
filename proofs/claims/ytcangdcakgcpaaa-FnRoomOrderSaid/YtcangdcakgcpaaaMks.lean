/- Rows of marks in memory, and the contracts of the conversions and comparisons of courses that the exact laws use. -/
import Derived.Test.YtcangdcakgcpaaaLin
import Derived.Test.YtcangdcakgcpaaaOrd
import Derived.Deep.QuietTactic
import Derived.BigQuiet
import Derived.Deep.LoopGhost
import Derived.OwnWalk
import Derived.Laws.OwnMore
import Derived.IntWalk
namespace Go.Proofs.Ytcangdcakgcpaaa.Crs
open Go.ChangeShapes Go.WideShapes Go.ChangeAt Go.RowKit
open Go.Proofs.Ytcangdcakgcpaaa.Num Go.Proofs.Ytcangdcakgcpaaa.Kit Go.Proofs.Ytcangdcakgcpaaa.Pts Go.Proofs.Ytcangdcakgcpaaa.Seg
set_option linter.unusedVariables false
set_option linter.unusedSimpArgs false

/-- A mark: its name, its point, its side and its zone. -/
structure M5 where
  n : ByteArray
  x : Int
  y : Int
  s : Int
  z : Int

abbrev MkV (n : ByteArray) (x y s z : Int) : Value := .agg #[.string n, .int .i64 x, .int .i64 y, .int .i64 s, .int .i64 z]
abbrev MV (m : M5) : Value := MkV m.n m.x m.y m.s m.z
/-- A line. -/
structure L4 where
  a : Int
  b : Int
  c : Int
  d : Int
abbrev LV (l : L4) : Value := Sg l.a l.b l.c l.d
/-- A course: its start, its finish, and the slice of its marks. -/
abbrev CV (l k : L4) (v : Value) : Value := .agg #[.int .i64 l.a, .int .i64 l.b, .int .i64 l.c, .int .i64 l.d, .int .i64 k.a, .int .i64 k.b, .int .i64 k.c, .int .i64 k.d, v]

/-- The mark number i of a list. -/
def mk (ms : List M5) (i : Nat) : M5 := ms.getD i ⟨⟨#[]⟩, 0, 0, 0, 0⟩

/-- Five cells from an address on hold a mark. -/
def At (w : World) (b o : Nat) (m : M5) : Prop := w.cell? ⟨b, o, none⟩ = some (.string m.n) ∧ w.cell? ⟨b, o + 1, none⟩ = some (.int .i64 m.x) ∧ w.cell? ⟨b, o + 2, none⟩ = some (.int .i64 m.y) ∧ w.cell? ⟨b, o + 3, none⟩ = some (.int .i64 m.s) ∧ w.cell? ⟨b, o + 4, none⟩ = some (.int .i64 m.z)
theorem At.ext {w w' : World} {b o : Nat} {m : M5} (h : At w b o m) (k : Ext w w') : At w' b o m := ⟨k.cellOf h.1, k.cellOf h.2.1, k.cellOf h.2.2.1, k.cellOf h.2.2.2.1, k.cellOf h.2.2.2.2⟩

/-- Names that fit into a machine. -/
def Fit (ms : List M5) : Prop := ∀ i, i < ms.length → (mk ms i).n.size ≤ maxLen
/-- A slice that reads as a list of marks. -/
def Mks (w : World) (a : Option Addr) (ms : List M5) : Prop :=
  (ms.length ≤ maxLen ∧ Fit ms) ∧ (ms = [] ∨ ∃ b off, a = some ⟨b, off, none⟩ ∧ ∀ i, i < ms.length → At w b (off + i * 5) (mk ms i))
theorem Mks.ext {w w' : World} {a : Option Addr} {ms : List M5} (h : Mks w a ms) (k : Ext w w') : Mks w' a ms := by
  refine ⟨h.1, ?_⟩
  rcases h.2 with h | ⟨b, off, ha, h⟩
  · exact .inl h
  · exact .inr ⟨b, off, ha, fun i hi => (h i hi).ext k⟩
theorem Mks.row {w : World} {a : Option Addr} {ms : List M5} (h : Mks w a ms) (h0 : 0 < ms.length) : ∃ b off, a = some ⟨b, off, none⟩ ∧ ∀ i, i < ms.length → At w b (off + i * 5) (mk ms i) := by
  rcases h.2 with e | e
  · rw [e] at h0; simp at h0
  · exact e

/-- Block B holds the marks of a list one behind the other, and may be written. -/
def Own (w : World) (B : Nat) (ms : List M5) : Prop := ∀ i, i < ms.length → At w B (i * 5) (mk ms i) ∧ w.frozen? ⟨B, i * 5, none⟩ = false ∧ w.frozen? ⟨B, i * 5 + 1, none⟩ = false ∧ w.frozen? ⟨B, i * 5 + 2, none⟩ = false ∧ w.frozen? ⟨B, i * 5 + 3, none⟩ = false ∧ w.frozen? ⟨B, i * 5 + 4, none⟩ = false
theorem Own.ext {w w' : World} {B : Nat} {ms : List M5} (h : Own w B ms) (k : Ext w w') : Own w' B ms :=
  fun i hi => ⟨(h i hi).1.ext k, k.thawOf (h i hi).1.1 (h i hi).2.1, k.thawOf (h i hi).1.2.1 (h i hi).2.2.1, k.thawOf (h i hi).1.2.2.1 (h i hi).2.2.2.1, k.thawOf (h i hi).1.2.2.2.1 (h i hi).2.2.2.2.1, k.thawOf (h i hi).1.2.2.2.2 (h i hi).2.2.2.2.2⟩
theorem Own.mks {w : World} {B : Nat} {ms : List M5} (h : Own w B ms) (hl : ms.length ≤ maxLen ∧ Fit ms) : Mks w (some ⟨B, 0, none⟩) ms :=
  ⟨hl, .inr ⟨B, 0, rfl, fun i hi => by rw [Nat.zero_add]; exact (h i hi).1⟩⟩
theorem Own.away {w w' : World} {B n : Nat} {ms : List M5} (h : Own w B ms) (k : Chg n w w') (hn : B ≠ n) : Own w' B ms :=
  fun i hi => ⟨⟨k.cellOf hn (h i hi).1.1, k.cellOf hn (h i hi).1.2.1, k.cellOf hn (h i hi).1.2.2.1, k.cellOf hn (h i hi).1.2.2.2.1, k.cellOf hn (h i hi).1.2.2.2.2⟩, k.thawOf hn (h i hi).1.1 (h i hi).2.1, k.thawOf hn (h i hi).1.2.1 (h i hi).2.2.1, k.thawOf hn (h i hi).1.2.2.1 (h i hi).2.2.2.1, k.thawOf hn (h i hi).1.2.2.2.1 (h i hi).2.2.2.2.1, k.thawOf hn (h i hi).1.2.2.2.2 (h i hi).2.2.2.2.2⟩

/-! ### sizes -/
/-- What is left of a bound behind the names of the first i marks. -/
def szT (m : Int) (ms : List M5) : Nat → Int
  | 0 => m
  | i + 1 => szT m ms i - (mk ms i).n.size
def szR (m : Int) (ms : List M5) : Int := if szT (m - ms.length) ms ms.length < 0 then -1 else szT (m - ms.length) ms ms.length
theorem szT_anti (m : Int) (ms : List M5) : ∀ i j, i ≤ j → szT m ms j ≤ szT m ms i
  | i, 0, h => by
    obtain rfl : i = 0 := by omega
    exact Int.le_refl _
  | i, j + 1, h => by
    by_cases e : i = j + 1
    · rw [e]; exact Int.le_refl _
    · have := szT_anti m ms i j (by omega)
      have e2 : szT m ms (j + 1) = szT m ms j - (mk ms j).n.size := rfl
      omega
theorem szT_le (m : Int) (ms : List M5) (i : Nat) : szT m ms i ≤ m := szT_anti m ms 0 i (Nat.zero_le _)
theorem szT_size (m : Int) (ms : List M5) : ∀ n i, i < n → 0 ≤ szT m ms n → ((mk ms i).n.size : Int) ≤ m := by
  intro n i hi h
  have h1 := szT_anti m ms (i + 1) n (by omega)
  have h2 := szT_le m ms i
  have e2 : szT m ms (i + 1) = szT m ms i - (mk ms i).n.size := rfl
  omega

theorem szMark_any (n : ByteArray) (x y s z m : Int) (w : World) (hn : n.size ≤ maxLen) (h0 : 0 ≤ m) (hm : m ≤ 1048576) :
    Calls Try.prog 42 #[MkV n x y s z, .int .i64 m] w fun e w' => e = .returned (.int .i64 (if m - n.size < 0 then -1 else m - n.size)) ∧ Ext w w' := by
  unfold maxLen at hn
  by_cases h : m - n.size < 0
  · rw [if_pos h]
    go_enter Try.func42, Try.ntmps42
    go_wp2
    go_ret
    exact ⟨rfl, (by repeat (first | exact Ext.refl _ | assumption | apply Ext.alloc | apply Ext.drew | (refine Ext.trans ?_ (by assumption)) | (refine Ext.setNew ?_ (by simp <;> omega) _)))⟩
  · rw [if_neg h]
    go_enter Try.func42, Try.ntmps42
    go_wp2
    go_ret
    exact ⟨rfl, (by repeat (first | exact Ext.refl _ | assumption | apply Ext.alloc | apply Ext.drew | (refine Ext.trans ?_ (by assumption)) | (refine Ext.setNew ?_ (by simp <;> omega) _)))⟩

def RelZ (w : World) (ms : List M5) (m : Int) (l i : Value) (wr : World) : Prop := ∃ k : Nat, i = .int .i64 k ∧ k ≤ ms.length ∧ l = .int .i64 (szT (m - ms.length) ms k) ∧ 0 ≤ szT (m - ms.length) ms k ∧ Ext w wr

theorem szR_yes {m : Int} {ms : List M5} (h : ¬ szR m ms < 0) (hm : 0 ≤ m) (h2 : m ≤ 1048576) : ms.length ≤ 1048576 ∧ ∀ i, i < ms.length → (mk ms i).n.size ≤ 1048576 := by
  unfold szR at h
  split at h
  · exact absurd (by decide) h
  · rename_i h3
    have h4 := szT_le (m - ms.length) ms ms.length
    exact ⟨by omega, fun i hi => by have := szT_size (m - ms.length) ms ms.length i hi (by omega); omega⟩
theorem szR_pos {m : Int} {ms : List M5} (h : ¬ szR m ms < 0) : 0 ≤ szR m ms := by omega

/-! ### conversions -/
theorem Box.five {w : World} {n : Nat} {a b c d e : Value} (h : Box w n [a, b, c, d, e]) :
    (w.cell? ⟨n, 0, none⟩ = some a ∧ w.cell? ⟨n, 1, none⟩ = some b ∧ w.cell? ⟨n, 2, none⟩ = some c ∧ w.cell? ⟨n, 3, none⟩ = some d ∧ w.cell? ⟨n, 4, none⟩ = some e) ∧
    w.frozen? ⟨n, 0, none⟩ = false ∧ w.frozen? ⟨n, 1, none⟩ = false ∧ w.frozen? ⟨n, 2, none⟩ = false ∧ w.frozen? ⟨n, 3, none⟩ = false ∧ w.frozen? ⟨n, 4, none⟩ = false :=
  ⟨⟨(h 0 _ rfl).1, (h 1 _ rfl).1, (h 2 _ rfl).1, (h 3 _ rfl).1, (h 4 _ rfl).1⟩, (h 0 _ rfl).2, (h 1 _ rfl).2, (h 2 _ rfl).2, (h 3 _ rfl).2, (h 4 _ rfl).2⟩

theorem mark_done {n : Nat} {w F : World} {tmps : Array Value} {a : ByteArray} {x y s z : Int} (B : Box F n [.string a, .int .i64 x, .int .i64 y, .int .i64 s, .int .i64 z]) (hC : Ext w F) (ha : tmps[2]? = some (.pointer (some ⟨n, 0, none⟩))) :
    bodyPost Try.prog Try.f43 (fun e w' => e = .returned (MkV a x y s z) ∧ Ext w w') Exit.ret ⟨tmps, []⟩ F := by
  obtain ⟨⟨g0, g1, g2, g3, g4⟩, _⟩ := Box.five B
  exact bodyPost_ret (v := MkV a x y s z) (by simp [results, Try.results43, go_sem, ha, g0, g1, g2, g3, g4]) rfl ⟨rfl, hC⟩
abbrev zeroM : Array Value := #[.string ⟨#[]⟩, .int .i64 0, .int .i64 0, .int .i64 0, .int .i64 0]
theorem toMark_any (n : ByteArray) (x y s z : Int) (w : World) : Calls Try.prog 43 #[MkV n x y s z] w fun e w' => e = .returned (MkV n x y s z) ∧ Ext w w' := by
  go_enter Try.func43, Try.ntmps43
  go_wp2_with fail
  refine (toPoint_any _ _ _).mono ?_
  rintro e w1 ⟨rfl, hx⟩
  have B0 := (((Box.new (w := w) (n := w.heap.size) (vs := [.string n, .int .i64 x, .int .i64 y, .int .i64 s, .int .i64 z]) (t := 81) rfl).alloc _).alloc _).ext hx
  have B1 := ((Box.new (w := w.alloc (.cells #[.string n, .int .i64 x, .int .i64 y, .int .i64 s, .int .i64 z] 81)) (n := w.heap.size + 1) (vs := [.string ⟨#[]⟩, .int .i64 0, .int .i64 0, .int .i64 0, .int .i64 0]) (t := 45) (by simp)).alloc _).ext hx
  have B2 := (Box.new (w := (w.alloc (.cells #[.string n, .int .i64 x, .int .i64 y, .int .i64 s, .int .i64 z] 81)).alloc (.cells zeroM 45)) (n := w.heap.size + 1 + 1) (vs := [.string n, .int .i64 0, .int .i64 0, .int .i64 0, .int .i64 0]) (t := 45) (by simp)).ext hx
  replace hx := (((Ext.refl w).alloc _).alloc _).alloc _ |>.trans hx
  obtain ⟨⟨p0, p1, p2, p3, p4⟩, _⟩ := Box.five B0
  obtain ⟨⟨h0, h1, h2, h3, h4⟩, f0, f1, f2, f3, f4⟩ := Box.five B1
  obtain ⟨⟨i0, i1, i2, i3, i4⟩, j0, j1, j2, j3, j4⟩ := Box.five B2
  have HB1 := Lib.hid (fun (k1 k2 k3 k4 : Value) => (((((((((B1.away (p := ⟨w.heap.size + 1 + 1, 1, none⟩) (by simp) k1).away (p := ⟨w.heap.size + 1 + 1, 2, none⟩) (by simp) k2).away (p := ⟨w.heap.size + 1 + 1, 3, none⟩) (by simp) k3).away (p := ⟨w.heap.size + 1 + 1, 4, none⟩) (by simp) k4).set 0 (by simp) (.string n)).set 1 (by simp) (.int .i64 x)).set 2 (by simp) (.int .i64 y)).set 3 (by simp) (.int .i64 s)).set 4 (by simp) (.int .i64 z)))
  clear B0 B1 B2
  go_wp2
  refine mark_done (HB1.out _ _ _ _) ?_ rfl
  exact ((((((((hx.setNew (p := ⟨w.heap.size + 1 + 1, 1, none⟩) (by simp; omega) _).setNew (p := ⟨w.heap.size + 1 + 1, 2, none⟩) (by simp; omega) _).setNew (p := ⟨w.heap.size + 1 + 1, 3, none⟩) (by simp; omega) _).setNew (p := ⟨w.heap.size + 1 + 1, 4, none⟩) (by simp; omega) _).setNew (p := ⟨w.heap.size + 1, 0, none⟩) (by simp) _).setNew (p := ⟨w.heap.size + 1, 1, none⟩) (by simp) _).setNew (p := ⟨w.heap.size + 1, 2, none⟩) (by simp) _).setNew (p := ⟨w.heap.size + 1, 3, none⟩) (by simp) _).setNew (p := ⟨w.heap.size + 1, 4, none⟩) (by simp) _

/-- Five stores one behind the other. -/
abbrev put5 (w : World) (B o : Nat) (a b c d e : Value) : World := ((((w.setCell ⟨B, o, none⟩ a).setCell ⟨B, o + 1, none⟩ b).setCell ⟨B, o + 2, none⟩ c).setCell ⟨B, o + 3, none⟩ d).setCell ⟨B, o + 4, none⟩ e
theorem set_other (W : World) (B p q : Nat) (u : Value) (h : p ≠ q) : (W.setCell ⟨B, p, none⟩ u).cell? ⟨B, q, none⟩ = W.cell? ⟨B, q, none⟩ := World.cell?_setCell_other _ _ _ _ (by simp <;> omega)
theorem put5_other (w : World) (B o q : Nat) (a b c d e : Value) (h : q < o ∨ o + 5 ≤ q) : (put5 w B o a b c d e).cell? ⟨B, q, none⟩ = w.cell? ⟨B, q, none⟩ := by
  unfold put5
  rw [set_other _ _ _ _ _ (by omega), set_other _ _ _ _ _ (by omega), set_other _ _ _ _ _ (by omega), set_other _ _ _ _ _ (by omega), set_other _ _ _ _ _ (by omega)]
theorem put5_frozen (w : World) (B o q : Nat) (a b c d e : Value) : (put5 w B o a b c d e).frozen? ⟨B, q, none⟩ = w.frozen? ⟨B, q, none⟩ := by
  simp only [put5, World.frozen?_setCell]
theorem put5_at {w : World} {B o : Nat} (h : ∀ r, r < 5 → ∃ v, w.cell? ⟨B, o + r, none⟩ = some v) (a b c d e : Value) :
    (put5 w B o a b c d e).cell? ⟨B, o, none⟩ = some a ∧ (put5 w B o a b c d e).cell? ⟨B, o + 1, none⟩ = some b ∧ (put5 w B o a b c d e).cell? ⟨B, o + 2, none⟩ = some c ∧ (put5 w B o a b c d e).cell? ⟨B, o + 3, none⟩ = some d ∧ (put5 w B o a b c d e).cell? ⟨B, o + 4, none⟩ = some e := by
  obtain ⟨v0, d0⟩ := h 0 (by omega)
  obtain ⟨v1, d1⟩ := h 1 (by omega)
  obtain ⟨v2, d2⟩ := h 2 (by omega)
  obtain ⟨v3, d3⟩ := h 3 (by omega)
  obtain ⟨v4, d4⟩ := h 4 (by omega)
  rw [Nat.add_zero] at d0
  unfold put5
  refine ⟨?_, ?_, ?_, ?_, ?_⟩
  · rw [set_other _ _ _ _ _ (by omega), set_other _ _ _ _ _ (by omega), set_other _ _ _ _ _ (by omega), set_other _ _ _ _ _ (by omega)]
    exact World.cell?_setCell_same _ _ _ d0
  · rw [set_other _ _ _ _ _ (by omega), set_other _ _ _ _ _ (by omega), set_other _ _ _ _ _ (by omega)]
    exact World.cell?_setCell_same _ _ _ (by rw [set_other _ _ _ _ _ (by omega)]; exact d1)
  · rw [set_other _ _ _ _ _ (by omega), set_other _ _ _ _ _ (by omega)]
    exact World.cell?_setCell_same _ _ _ (by rw [set_other _ _ _ _ _ (by omega), set_other _ _ _ _ _ (by omega)]; exact d2)
  · rw [set_other _ _ _ _ _ (by omega)]
    exact World.cell?_setCell_same _ _ _ (by rw [set_other _ _ _ _ _ (by omega), set_other _ _ _ _ _ (by omega), set_other _ _ _ _ _ (by omega)]; exact d3)
  · exact World.cell?_setCell_same _ _ _ (by rw [set_other _ _ _ _ _ (by omega), set_other _ _ _ _ _ (by omega), set_other _ _ _ _ _ (by omega), set_other _ _ _ _ _ (by omega)]; exact d4)

/-- What toMarkS leaves: a new row of the same marks. -/
def NewM (w : World) (ms : List M5) (e : Ending) (w' : World) : Prop := ∃ B, e = .returned (.slice (some ⟨B, 0, none⟩) ms.length ms.length) ∧ w.heap.size ≤ B ∧ Own w' B ms ∧ Ext w w'
/-- What its loop keeps: the block's cells are there and may be written; the first marks are copied. -/
def RelT (w : World) (ms : List M5) (i : Value) (wr : World) : Prop :=
  ∃ k : Nat, i = .int .i64 k ∧ k ≤ ms.length ∧ (∀ j, j < ms.length * 5 → (∃ v, wr.cell? ⟨w.heap.size, j, none⟩ = some v) ∧ wr.frozen? ⟨w.heap.size, j, none⟩ = false) ∧ (∀ j, j < k → At wr w.heap.size (j * 5) (mk ms j)) ∧ Ext w wr

theorem RelT.step {w wr w2 : World} {ms : List M5} {k : Nat} (hk : k < ms.length) (hc : ∀ j, j < ms.length * 5 → (∃ v, wr.cell? ⟨w.heap.size, j, none⟩ = some v) ∧ wr.frozen? ⟨w.heap.size, j, none⟩ = false)
    (hd : ∀ j, j < k → At wr w.heap.size (j * 5) (mk ms j)) (hx : Ext w wr) (hy : Ext wr w2) :
    RelT w ms (.int .i64 (k + 1)) (put5 w2 w.heap.size (k * 5) (.string (mk ms k).n) (.int .i64 (mk ms k).x) (.int .i64 (mk ms k).y) (.int .i64 (mk ms k).s) (.int .i64 (mk ms k).z)) := by
  have hc2 : ∀ j, j < ms.length * 5 → (∃ v, w2.cell? ⟨w.heap.size, j, none⟩ = some v) ∧ w2.frozen? ⟨w.heap.size, j, none⟩ = false := fun j hj => by
    obtain ⟨⟨v, hv⟩, hf⟩ := hc j hj
    exact ⟨⟨v, hy.cellOf hv⟩, hy.thawOf hv hf⟩
  have P := put5_at (w := w2) (B := w.heap.size) (o := k * 5) (fun r hr => (hc2 (k * 5 + r) (by omega)).1) (.string (mk ms k).n) (.int .i64 (mk ms k).x) (.int .i64 (mk ms k).y) (.int .i64 (mk ms k).s) (.int .i64 (mk ms k).z)
  refine ⟨k + 1, by go_num, by omega, fun j hj => ⟨?_, by rw [put5_frozen]; exact (hc2 j hj).2⟩, fun j hj => ?_, ?_⟩
  · by_cases h : j < k * 5 ∨ k * 5 + 5 ≤ j
    · rw [put5_other _ _ _ _ _ _ _ _ _ h]; exact (hc2 j hj).1
    · rcases (show j = k * 5 ∨ j = k * 5 + 1 ∨ j = k * 5 + 2 ∨ j = k * 5 + 3 ∨ j = k * 5 + 4 by omega) with e | e | e | e | e
      · rw [e]; exact ⟨_, P.1⟩
      · rw [e]; exact ⟨_, P.2.1⟩
      · rw [e]; exact ⟨_, P.2.2.1⟩
      · rw [e]; exact ⟨_, P.2.2.2.1⟩
      · rw [e]; exact ⟨_, P.2.2.2.2⟩
  · by_cases h : j = k
    · subst h; exact P
    · obtain ⟨g0, g1, g2, g3, g4⟩ := (hd j (by omega)).ext hy
      refine ⟨?_, ?_, ?_, ?_, ?_⟩
      all_goals
        rw [put5_other _ _ _ _ _ _ _ _ _ (by omega)]; assumption
  · exact (((((hx.trans hy).setNew (Nat.le_refl _) _).setNew (Nat.le_refl _) _).setNew (Nat.le_refl _) _).setNew (Nat.le_refl _) _).setNew (Nat.le_refl _) _

theorem markInfo : (Try.prog.info? 45).map (fun i => (i.zero, i.size, i.bytes)) = some (some (.agg zeroM), 5, 48) := by kernel_rfl

theorem Ext.grown {w w' : World} (h : w.grownBy w' none) : Ext w w' := by
  obtain ⟨h1, h2, h3, h4, h5⟩ := h
  exact ⟨h1, h2, h3, h4, fun i hi => h5 i hi (by simp)⟩

theorem madeAt {w' : World} {e : TypeId} {n b g : Nat} {z : Value} (h : w'.ownsRow b e 5 (.slice (some ⟨g, 0, none⟩) n n) n (madeCells z.cells (n * 5)).toList) (j : Nat) (hj : j < n * 5) :
    (∃ v, w'.cell? ⟨g, j, none⟩ = some v) ∧ w'.frozen? ⟨g, j, none⟩ = false := by
  refine ⟨?_, h.frozenAt j⟩
  rw [h.cellAt j hj]
  exact ⟨_, List.getElem?_eq_getElem (by simpa [size_madeCells] using hj)⟩

/-! ### comparisons -/
def RelE (w : World) (n : Nat) (i : Value) (wr : World) : Prop := ∃ k : Nat, i = .int .i64 k ∧ k ≤ n ∧ Ext w wr

end Go.Proofs.Ytcangdcakgcpaaa.Crs
