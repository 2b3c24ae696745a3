import Derived.Test.YtmlojndkpnhalaaGreatMPts
import Derived.Test.YtmlojndkpnhalaaGreatOrd
import Derived.Deep.QuietTactic
import Derived.BigQuiet
import Derived.Deep.LoopGhost
import Derived.OwnWalk
import Derived.Laws.OwnMore
import Derived.IntWalk
import Derived.Lib.SmallJoins
import Derived.OpenShut
import Derived.Deep.Slices
import Derived.Deep.Fields
import Derived.ChangeSame
import Derived.PlainAid
import Derived.Laws.EntriesVeiled
import Derived.Laws.StructEq
namespace Go.Proofs.YtmlojndkpnhalaaGreat.Crs
open Go.ChangeShapes Go.WideShapes Go.ChangeAt Go.RowKit
open Go.Proofs.YtmlojndkpnhalaaGreat.Num Go.Proofs.YtmlojndkpnhalaaGreat.Kit Go.Proofs.YtmlojndkpnhalaaGreat.Pts Go.Proofs.YtmlojndkpnhalaaGreat.Seg
set_option linter.unusedVariables false
set_option linter.unusedSimpArgs false
structure M5 where
  n : ByteArray
  x : Int
  y : Int
  s : Int
  z : Int
abbrev MkV (n : ByteArray) (x y s z : Int) : Value := .agg #[.string n, .int .i64 x, .int .i64 y, .int .i64 s, .int .i64 z]
abbrev MV (m : M5) : Value := MkV m.n m.x m.y m.s m.z
structure L4 where
  a : Int
  b : Int
  c : Int
  d : Int
abbrev LV (l : L4) : Value := Sg l.a l.b l.c l.d
abbrev CV (l k : L4) (v : Value) : Value := .agg #[.int .i64 l.a, .int .i64 l.b, .int .i64 l.c, .int .i64 l.d, .int .i64 k.a, .int .i64 k.b, .int .i64 k.c, .int .i64 k.d, v]
def mk (ms : List M5) (i : Nat) : M5 := ms.getD i ⟨⟨#[]⟩, 0, 0, 0, 0⟩
def At (w : World) (b o : Nat) (m : M5) : Prop := w.cell? ⟨b, o, none⟩ = some (.string m.n) ∧ w.cell? ⟨b, o + 1, none⟩ = some (.int .i64 m.x) ∧ w.cell? ⟨b, o + 2, none⟩ = some (.int .i64 m.y) ∧ w.cell? ⟨b, o + 3, none⟩ = some (.int .i64 m.s) ∧ w.cell? ⟨b, o + 4, none⟩ = some (.int .i64 m.z)
theorem At.ext {w w' : World} {b o : Nat} {m : M5} (h : At w b o m) (k : Ext w w') : At w' b o m := ⟨k.cellOf h.1, k.cellOf h.2.1, k.cellOf h.2.2.1, k.cellOf h.2.2.2.1, k.cellOf h.2.2.2.2⟩
def Fit (ms : List M5) : Prop := ∀ i, i < ms.length → (mk ms i).n.size ≤ maxLen
def Mks (w : World) (a : Option Addr) (ms : List M5) : Prop :=
  (ms.length ≤ maxLen ∧ Fit ms) ∧ (ms = [] ∨ ∃ b off, a = some ⟨b, off, none⟩ ∧ ∀ i, i < ms.length → At w b (off + i * 5) (mk ms i))
theorem Mks.ext {w w' : World} {a : Option Addr} {ms : List M5} (h : Mks w a ms) (k : Ext w w') : Mks w' a ms := by
  refine ⟨h.1, ?_⟩
  rcases h.2 with h | ⟨b, off, ha, h⟩
  · exact .inl h
  · exact .inr ⟨b, off, ha, fun i hi => (h i hi).ext k⟩
theorem Mks.row {w : World} {a : Option Addr} {ms : List M5} (h : Mks w a ms) (h0 : 0 < ms.length) : ∃ b off, a = some ⟨b, off, none⟩ ∧ ∀ i, i < ms.length → At w b (off + i * 5) (mk ms i) := by
  rcases h.2 with e | e
  · rw [e] at h0; simp at h0
  · exact e
def Own (w : World) (B : Nat) (ms : List M5) : Prop := ∀ i, i < ms.length → At w B (i * 5) (mk ms i) ∧ w.frozen? ⟨B, i * 5, none⟩ = false ∧ w.frozen? ⟨B, i * 5 + 1, none⟩ = false ∧ w.frozen? ⟨B, i * 5 + 2, none⟩ = false ∧ w.frozen? ⟨B, i * 5 + 3, none⟩ = false ∧ w.frozen? ⟨B, i * 5 + 4, none⟩ = false
theorem Own.ext {w w' : World} {B : Nat} {ms : List M5} (h : Own w B ms) (k : Ext w w') : Own w' B ms :=
  fun i hi => ⟨(h i hi).1.ext k, k.thawOf (h i hi).1.1 (h i hi).2.1, k.thawOf (h i hi).1.2.1 (h i hi).2.2.1, k.thawOf (h i hi).1.2.2.1 (h i hi).2.2.2.1, k.thawOf (h i hi).1.2.2.2.1 (h i hi).2.2.2.2.1, k.thawOf (h i hi).1.2.2.2.2 (h i hi).2.2.2.2.2⟩
theorem Own.mks {w : World} {B : Nat} {ms : List M5} (h : Own w B ms) (hl : ms.length ≤ maxLen ∧ Fit ms) : Mks w (some ⟨B, 0, none⟩) ms :=
  ⟨hl, .inr ⟨B, 0, rfl, fun i hi => by rw [Nat.zero_add]; exact (h i hi).1⟩⟩
theorem Own.away {w w' : World} {B n : Nat} {ms : List M5} (h : Own w B ms) (k : Chg n w w') (hn : B ≠ n) : Own w' B ms :=
  fun i hi => ⟨⟨k.cellOf hn (h i hi).1.1, k.cellOf hn (h i hi).1.2.1, k.cellOf hn (h i hi).1.2.2.1, k.cellOf hn (h i hi).1.2.2.2.1, k.cellOf hn (h i hi).1.2.2.2.2⟩, k.thawOf hn (h i hi).1.1 (h i hi).2.1, k.thawOf hn (h i hi).1.2.1 (h i hi).2.2.1, k.thawOf hn (h i hi).1.2.2.1 (h i hi).2.2.2.1, k.thawOf hn (h i hi).1.2.2.2.1 (h i hi).2.2.2.2.1, k.thawOf hn (h i hi).1.2.2.2.2 (h i hi).2.2.2.2.2⟩
theorem Box.five {w : World} {n : Nat} {a b c d e : Value} (h : Box w n [a, b, c, d, e]) :
    (w.cell? ⟨n, 0, none⟩ = some a ∧ w.cell? ⟨n, 1, none⟩ = some b ∧ w.cell? ⟨n, 2, none⟩ = some c ∧ w.cell? ⟨n, 3, none⟩ = some d ∧ w.cell? ⟨n, 4, none⟩ = some e) ∧
    w.frozen? ⟨n, 0, none⟩ = false ∧ w.frozen? ⟨n, 1, none⟩ = false ∧ w.frozen? ⟨n, 2, none⟩ = false ∧ w.frozen? ⟨n, 3, none⟩ = false ∧ w.frozen? ⟨n, 4, none⟩ = false :=
  ⟨⟨(h 0 _ rfl).1, (h 1 _ rfl).1, (h 2 _ rfl).1, (h 3 _ rfl).1, (h 4 _ rfl).1⟩, (h 0 _ rfl).2, (h 1 _ rfl).2, (h 2 _ rfl).2, (h 3 _ rfl).2, (h 4 _ rfl).2⟩
abbrev zeroM : Array Value := #[.string ⟨#[]⟩, .int .i64 0, .int .i64 0, .int .i64 0, .int .i64 0]
abbrev put5 (w : World) (B o : Nat) (a b c d e : Value) : World := ((((w.setCell ⟨B, o, none⟩ a).setCell ⟨B, o + 1, none⟩ b).setCell ⟨B, o + 2, none⟩ c).setCell ⟨B, o + 3, none⟩ d).setCell ⟨B, o + 4, none⟩ e
theorem set_other (W : World) (B p q : Nat) (u : Value) (h : p ≠ q) : (W.setCell ⟨B, p, none⟩ u).cell? ⟨B, q, none⟩ = W.cell? ⟨B, q, none⟩ := World.cell?_setCell_other _ _ _ _ (by simp <;> omega)
theorem put5_other (w : World) (B o q : Nat) (a b c d e : Value) (h : q < o ∨ o + 5 ≤ q) : (put5 w B o a b c d e).cell? ⟨B, q, none⟩ = w.cell? ⟨B, q, none⟩ := by
  unfold put5
  rw [set_other _ _ _ _ _ (by omega), set_other _ _ _ _ _ (by omega), set_other _ _ _ _ _ (by omega), set_other _ _ _ _ _ (by omega), set_other _ _ _ _ _ (by omega)]
theorem put5_frozen (w : World) (B o q : Nat) (a b c d e : Value) : (put5 w B o a b c d e).frozen? ⟨B, q, none⟩ = w.frozen? ⟨B, q, none⟩ := by
  simp only [put5, World.frozen?_setCell]
theorem put5_at {w : World} {B o : Nat} (h : ∀ r, r < 5 → ∃ v, w.cell? ⟨B, o + r, none⟩ = some v) (a b c d e : Value) :
    (put5 w B o a b c d e).cell? ⟨B, o, none⟩ = some a ∧ (put5 w B o a b c d e).cell? ⟨B, o + 1, none⟩ = some b ∧ (put5 w B o a b c d e).cell? ⟨B, o + 2, none⟩ = some c ∧ (put5 w B o a b c d e).cell? ⟨B, o + 3, none⟩ = some d ∧ (put5 w B o a b c d e).cell? ⟨B, o + 4, none⟩ = some e := by
  obtain ⟨v0, d0⟩ := h 0 (by omega)
  obtain ⟨v1, d1⟩ := h 1 (by omega)
  obtain ⟨v2, d2⟩ := h 2 (by omega)
  obtain ⟨v3, d3⟩ := h 3 (by omega)
  obtain ⟨v4, d4⟩ := h 4 (by omega)
  rw [Nat.add_zero] at d0
  unfold put5
  refine ⟨?_, ?_, ?_, ?_, ?_⟩
  · rw [set_other _ _ _ _ _ (by omega), set_other _ _ _ _ _ (by omega), set_other _ _ _ _ _ (by omega), set_other _ _ _ _ _ (by omega)]
    exact World.cell?_setCell_same _ _ _ d0
  · rw [set_other _ _ _ _ _ (by omega), set_other _ _ _ _ _ (by omega), set_other _ _ _ _ _ (by omega)]
    exact World.cell?_setCell_same _ _ _ (by rw [set_other _ _ _ _ _ (by omega)]; exact d1)
  · rw [set_other _ _ _ _ _ (by omega), set_other _ _ _ _ _ (by omega)]
    exact World.cell?_setCell_same _ _ _ (by rw [set_other _ _ _ _ _ (by omega), set_other _ _ _ _ _ (by omega)]; exact d2)
  · rw [set_other _ _ _ _ _ (by omega)]
    exact World.cell?_setCell_same _ _ _ (by rw [set_other _ _ _ _ _ (by omega), set_other _ _ _ _ _ (by omega), set_other _ _ _ _ _ (by omega)]; exact d3)
  · exact World.cell?_setCell_same _ _ _ (by rw [set_other _ _ _ _ _ (by omega), set_other _ _ _ _ _ (by omega), set_other _ _ _ _ _ (by omega), set_other _ _ _ _ _ (by omega)]; exact d4)
def RelT (w : World) (ms : List M5) (i : Value) (wr : World) : Prop :=
  ∃ k : Nat, i = .int .i64 k ∧ k ≤ ms.length ∧ (∀ j, j < ms.length * 5 → (∃ v, wr.cell? ⟨w.heap.size, j, none⟩ = some v) ∧ wr.frozen? ⟨w.heap.size, j, none⟩ = false) ∧ (∀ j, j < k → At wr w.heap.size (j * 5) (mk ms j)) ∧ Ext w wr
theorem RelT.step {w wr w2 : World} {ms : List M5} {k : Nat} (hk : k < ms.length) (hc : ∀ j, j < ms.length * 5 → (∃ v, wr.cell? ⟨w.heap.size, j, none⟩ = some v) ∧ wr.frozen? ⟨w.heap.size, j, none⟩ = false)
    (hd : ∀ j, j < k → At wr w.heap.size (j * 5) (mk ms j)) (hx : Ext w wr) (hy : Ext wr w2) :
    RelT w ms (.int .i64 (k + 1)) (put5 w2 w.heap.size (k * 5) (.string (mk ms k).n) (.int .i64 (mk ms k).x) (.int .i64 (mk ms k).y) (.int .i64 (mk ms k).s) (.int .i64 (mk ms k).z)) := by
  have hc2 : ∀ j, j < ms.length * 5 → (∃ v, w2.cell? ⟨w.heap.size, j, none⟩ = some v) ∧ w2.frozen? ⟨w.heap.size, j, none⟩ = false := fun j hj => by
    obtain ⟨⟨v, hv⟩, hf⟩ := hc j hj
    exact ⟨⟨v, hy.cellOf hv⟩, hy.thawOf hv hf⟩
  have P := put5_at (w := w2) (B := w.heap.size) (o := k * 5) (fun r hr => (hc2 (k * 5 + r) (by omega)).1) (.string (mk ms k).n) (.int .i64 (mk ms k).x) (.int .i64 (mk ms k).y) (.int .i64 (mk ms k).s) (.int .i64 (mk ms k).z)
  refine ⟨k + 1, by go_num, by omega, fun j hj => ⟨?_, by rw [put5_frozen]; exact (hc2 j hj).2⟩, fun j hj => ?_, ?_⟩
  · by_cases h : j < k * 5 ∨ k * 5 + 5 ≤ j
    · rw [put5_other _ _ _ _ _ _ _ _ _ h]; exact (hc2 j hj).1
    · rcases (show j = k * 5 ∨ j = k * 5 + 1 ∨ j = k * 5 + 2 ∨ j = k * 5 + 3 ∨ j = k * 5 + 4 by omega) with e | e | e | e | e
      · rw [e]; exact ⟨_, P.1⟩
      · rw [e]; exact ⟨_, P.2.1⟩
      · rw [e]; exact ⟨_, P.2.2.1⟩
      · rw [e]; exact ⟨_, P.2.2.2.1⟩
      · rw [e]; exact ⟨_, P.2.2.2.2⟩
  · by_cases h : j = k
    · subst h; exact P
    · obtain ⟨g0, g1, g2, g3, g4⟩ := (hd j (by omega)).ext hy
      refine ⟨?_, ?_, ?_, ?_, ?_⟩
      all_goals
        rw [put5_other _ _ _ _ _ _ _ _ _ (by omega)]; assumption
  · exact (((((hx.trans hy).setNew (Nat.le_refl _) _).setNew (Nat.le_refl _) _).setNew (Nat.le_refl _) _).setNew (Nat.le_refl _) _).setNew (Nat.le_refl _) _
theorem markInfo : (Tryz.prog.info? 145).map (fun i => (i.zero, i.size, i.bytes)) = some (some (.agg zeroM), 5, 48) := by kernel_rfl
theorem Ext.grown {w w' : World} (h : w.grownBy w' none) : Ext w w' := by
  obtain ⟨h1, h2, h3, h4, h5⟩ := h
  exact ⟨h1, h2, h3, h4, fun i hi => h5 i hi (by simp)⟩
def RelE (w : World) (n : Nat) (i : Value) (wr : World) : Prop := ∃ k : Nat, i = .int .i64 k ∧ k ≤ n ∧ Ext w wr
end Go.Proofs.YtmlojndkpnhalaaGreat.Crs
namespace Go.Proofs.YtmlojndkpnhalaaGreat.Crs
open Go.ChangeShapes Go.WideShapes Go.ChangeAt Go.RowKit Go.Deep
open Go.Proofs.YtmlojndkpnhalaaGreat.Num Go.Proofs.YtmlojndkpnhalaaGreat.Kit Go.Proofs.YtmlojndkpnhalaaGreat.Pts Go.Proofs.YtmlojndkpnhalaaGreat.Seg
set_option linter.unusedVariables false
set_option linter.unusedSimpArgs false
theorem Box.nine {w : World} {n : Nat} {a b c d e f g h i : Value} (B : Box w n [a, b, c, d, e, f, g, h, i]) :
    (w.cell? ⟨n, 0, none⟩ = some a ∧ w.cell? ⟨n, 1, none⟩ = some b ∧ w.cell? ⟨n, 2, none⟩ = some c ∧ w.cell? ⟨n, 3, none⟩ = some d ∧ w.cell? ⟨n, 4, none⟩ = some e ∧ w.cell? ⟨n, 5, none⟩ = some f ∧ w.cell? ⟨n, 6, none⟩ = some g ∧ w.cell? ⟨n, 7, none⟩ = some h ∧ w.cell? ⟨n, 8, none⟩ = some i) ∧
    w.frozen? ⟨n, 0, none⟩ = false ∧ w.frozen? ⟨n, 1, none⟩ = false ∧ w.frozen? ⟨n, 2, none⟩ = false ∧ w.frozen? ⟨n, 3, none⟩ = false ∧ w.frozen? ⟨n, 4, none⟩ = false ∧ w.frozen? ⟨n, 5, none⟩ = false ∧ w.frozen? ⟨n, 6, none⟩ = false ∧ w.frozen? ⟨n, 7, none⟩ = false ∧ w.frozen? ⟨n, 8, none⟩ = false :=
  ⟨⟨(B 0 _ rfl).1, (B 1 _ rfl).1, (B 2 _ rfl).1, (B 3 _ rfl).1, (B 4 _ rfl).1, (B 5 _ rfl).1, (B 6 _ rfl).1, (B 7 _ rfl).1, (B 8 _ rfl).1⟩, (B 0 _ rfl).2, (B 1 _ rfl).2, (B 2 _ rfl).2, (B 3 _ rfl).2, (B 4 _ rfl).2, (B 5 _ rfl).2, (B 6 _ rfl).2, (B 7 _ rfl).2, (B 8 _ rfl).2⟩
abbrev cellsC (l k : L4) (v : Value) : List Value := [.int .i64 l.a, .int .i64 l.b, .int .i64 l.c, .int .i64 l.d, .int .i64 k.a, .int .i64 k.b, .int .i64 k.c, .int .i64 k.d, v]
abbrev zeroL : L4 := ⟨0, 0, 0, 0⟩
theorem Own.set {w : World} {B n i : Nat} {ms : List M5} (h : Own w B ms) (hn : B ≠ n) (u : Value) : Own (w.setCell ⟨n, i, none⟩ u) B ms := h.away ((Chg.refl n w).setCell i u) hn
end Go.Proofs.YtmlojndkpnhalaaGreat.Crs
namespace Go.Proofs.YtmlojndkpnhalaaGreat.Crs
open Go.ChangeShapes Go.WideShapes Go.ChangeAt Go.RowKit
open Go.Proofs.YtmlojndkpnhalaaGreat.Num Go.Proofs.YtmlojndkpnhalaaGreat.Kit Go.Proofs.YtmlojndkpnhalaaGreat.Pts Go.Proofs.YtmlojndkpnhalaaGreat.Seg
set_option linter.unusedVariables false
set_option linter.unusedSimpArgs false
abbrev St (l : List UInt8) : Value := .string ⟨l.toArray⟩
theorem conv_one (W : World) (n : Nat) (z : Int) (h : W.cell? ⟨n, 0, none⟩ = some (.int .u8 z)) (h0 : 0 ≤ z) (h1 : z ≤ 255) :
    (convert 22 9 (.slice (some ⟨n, 0, none⟩) 1 1)).run Tryz.prog W = .ok (St [UInt8.ofNat z.toNat]) W :=
  run_convert_bytes_back W 22 9 5 ⟨n, 0, none⟩ 1 [UInt8.ofNat z.toNat] Tryz.underlying22 Tryz.underlying5 Tryz.underlying9 (fun j hj => by
    obtain rfl : j = 0 := by simpa using hj
    have e : ((UInt8.ofNat z.toNat).toNat : Int) = z := by simp [UInt8.toNat_ofNat']; omega
    rw [show ((([UInt8.ofNat z.toNat] : List UInt8)[0].toNat : Nat) : Int) = z from e]
    simpa [Addr.add] using h)
theorem conv_new (z : Int) (h0 : 0 ≤ z) (h1 : z ≤ 255) : ∀ W : World, (convert 22 9 (.slice (some ⟨W.heap.size, 0, none⟩) 1 1)).run Tryz.prog (W.alloc (.cells #[.int .u8 z] 5)) = .ok (St [UInt8.ofNat z.toNat]) (W.alloc (.cells #[.int .u8 z] 5)) :=
  fun W => conv_one _ _ z (boxed 0 rfl rfl) h0 h1
def RoomM (w : World) (g n : Nat) : Prop := ∀ j, j < n * 5 → (∃ v, w.cell? ⟨g, j, none⟩ = some v) ∧ w.frozen? ⟨g, j, none⟩ = false
theorem RoomM.ext {w w' : World} {g n : Nat} (h : RoomM w g n) (k : Ext w w') : RoomM w' g n := fun j hj => by
  obtain ⟨⟨v, c⟩, f⟩ := h j hj
  exact ⟨⟨v, k.cellOf c⟩, k.thawOf c f⟩
theorem RoomM.put {w : World} {g n o : Nat} (h : RoomM w g n) (ho : o + 5 ≤ n * 5) (a b c d e : Value) : RoomM (put5 w g o a b c d e) g n := by
  intro j hj
  refine ⟨?_, by rw [put5_frozen]; exact (h j hj).2⟩
  by_cases q : j < o ∨ o + 5 ≤ j
  · rw [put5_other _ _ _ _ _ _ _ _ _ q]; exact (h j hj).1
  · have P := put5_at (w := w) (B := g) (o := o) (fun r hr => (h (o + r) (by omega)).1) a b c d e
    rcases (show j = o ∨ j = o + 1 ∨ j = o + 2 ∨ j = o + 3 ∨ j = o + 4 by omega) with rfl | rfl | rfl | rfl | rfl
    · exact ⟨_, P.1⟩
    · exact ⟨_, P.2.1⟩
    · exact ⟨_, P.2.2.1⟩
    · exact ⟨_, P.2.2.2.1⟩
    · exact ⟨_, P.2.2.2.2⟩
theorem Chg.put5 {w wr : World} {g o : Nat} (h : Chg g w wr) (a b c d e : Value) : Chg g w (Crs.put5 wr g o a b c d e) := ((((h.setCell _ _).setCell _ _).setCell _ _).setCell _ _).setCell _ _
end Go.Proofs.YtmlojndkpnhalaaGreat.Crs
namespace Go.Proofs.YtmlojndkpnhalaaGreat.Crs
open Go.ChangeShapes Go.WideShapes Go.ChangeAt Go.RowKit Go.PlainAid
open Go.Proofs.YtmlojndkpnhalaaGreat.Num Go.Proofs.YtmlojndkpnhalaaGreat.Kit Go.Proofs.YtmlojndkpnhalaaGreat.Pts Go.Proofs.YtmlojndkpnhalaaGreat.Seg
set_option linter.unusedVariables false
set_option linter.unusedSimpArgs false
def slB (n : Int) : Bool := inB n 97 122
def dgB (n : Int) : Bool := inB n 48 57
def chB (n : Int) : Bool := slB n || dgB n
def nmB (s : ByteArray) : Bool := decide (1 ≤ s.size) && (decide (s.size ≤ 8) && (slB (bt s 0) && (List.range s.size).all fun k => chB (bt s k)))
theorem nm_short {s : ByteArray} (h : s.size < 1) : nmB s = false := by unfold nmB; rw [decide_eq_false (by omega)]; rfl
theorem nm_long {s : ByteArray} (h : 8 < s.size) : nmB s = false := by unfold nmB; rw [decide_eq_false (p := s.size ≤ 8) (by omega)]; simp
theorem nm_first {s : ByteArray} (h : slB (bt s 0) = false) : nmB s = false := by unfold nmB; rw [h]; simp
theorem nm_no {s : ByteArray} {k : Nat} (hk : k < s.size) (h : chB (bt s k) = false) : nmB s = false := by
  unfold nmB
  rw [show ((List.range s.size).all fun k => chB (bt s k)) = false from List.all_eq_false.2 ⟨k, by simpa using hk, by simp [h]⟩]; simp
theorem nm_all {s : ByteArray} (h1 : 1 ≤ s.size) (h2 : s.size ≤ 8) (h3 : slB (bt s 0) = true) (h : ∀ k, k < s.size → chB (bt s k) = true) : nmB s = true := by
  unfold nmB
  rw [decide_eq_true h1, decide_eq_true h2, h3, show ((List.range s.size).all fun k => chB (bt s k)) = true from List.all_eq_true.2 fun k hk => h k (by simpa using hk)]; rfl
theorem small_any (n : Int) (w : World) : Calls Tryz.prog 348 #[.int .u8 n] w fun e w' => e = .returned (.bool (slB n)) ∧ w = w' := by
  by_cases h1 : 97 ≤ n
  · by_cases h2 : n ≤ 122
    · have H := Lib.hid (show slB n = true from inB_yes h1 h2)
      go_enter Tryz.func348, Tryz.ntmps348
      go_wp2
      go_ret
      exact ⟨ret_bool H.out, rfl⟩
    · have H := Lib.hid (show slB n = false from inB_no (fun h => h2 h.2))
      go_enter Tryz.func348, Tryz.ntmps348
      go_wp2
      go_ret
      exact ⟨ret_bool H.out, rfl⟩
  · have H := Lib.hid (show slB n = false from inB_no (fun h => h1 h.1))
    go_enter Tryz.func348, Tryz.ntmps348
    go_wp2
    go_ret
    exact ⟨ret_bool H.out, rfl⟩
theorem digit_any (n : Int) (w : World) : Calls Tryz.prog 349 #[.int .u8 n] w fun e w' => e = .returned (.bool (dgB n)) ∧ w = w' := by
  by_cases h1 : 48 ≤ n
  · by_cases h2 : n ≤ 57
    · have H := Lib.hid (show dgB n = true from inB_yes h1 h2)
      go_enter Tryz.func349, Tryz.ntmps349
      go_wp2
      go_ret
      exact ⟨ret_bool H.out, rfl⟩
    · have H := Lib.hid (show dgB n = false from inB_no (fun h => h2 h.2))
      go_enter Tryz.func349, Tryz.ntmps349
      go_wp2
      go_ret
      exact ⟨ret_bool H.out, rfl⟩
  · have H := Lib.hid (show dgB n = false from inB_no (fun h => h1 h.1))
    go_enter Tryz.func349, Tryz.ntmps349
    go_wp2
    go_ret
    exact ⟨ret_bool H.out, rfl⟩
theorem side_any (n : Int) (w : World) : Calls Tryz.prog 347 #[.int .i64 n] w fun e w' => e = .returned (.bool (inB n 1 2)) ∧ w = w' := by
  by_cases h1 : n = 1
  · have H := Lib.hid (show inB n 1 2 = true from inB_yes (by omega) (by omega))
    go_enter Tryz.func347, Tryz.ntmps347
    go_wp2
    go_ret
    exact ⟨ret_bool H.out, rfl⟩
  · by_cases h2 : n = 2
    · have H := Lib.hid (show inB n 1 2 = true from inB_yes (by omega) (by omega))
      go_enter Tryz.func347, Tryz.ntmps347
      go_wp2
      go_ret
      exact ⟨ret_bool H.out, rfl⟩
    · have H := Lib.hid (show inB n 1 2 = false from inB_no (by omega))
      have e1 : (n == 1) = false := by simp [h1]
      have e2 : (n == 2) = false := by simp [h2]
      go_enter Tryz.func347, Tryz.ntmps347
      go_wp2
      go_ret
      exact ⟨ret_bool H.out, rfl⟩
def RelN (w : World) (s : ByteArray) (i : Value) (wr : World) : Prop := ∃ k : Nat, i = .int .i64 k ∧ k ≤ s.size ∧ (∀ j, j < k → chB (bt s j) = true) ∧ w = wr
set_option maxHeartbeats 1000000 in
theorem name_impl (s : ByteArray) (w : World) (hs : s.size ≤ maxLen) : Calls Tryz.prog 346 #[.string s] w fun e w' => e = .returned (.bool (nmB s)) ∧ w = w' := by
  have hb := get_bt s
  unfold maxLen at hs
  by_cases h1 : s.size < 1
  · have H := Lib.hid (nm_short h1)
    have e1 : (s.size : Int) < 1 := by omega
    go_enter Tryz.func346, Tryz.ntmps346
    go_wp2
    go_ret
    exact ⟨ret_bool H.out, rfl⟩
  have e1 : ¬ (s.size : Int) < 1 := by omega
  have p0 : 0 < s.size := by omega
  have p1 : (0 : Int) < (s.size : Int) := by omega
  by_cases h8 : 8 < s.size
  · have H := Lib.hid (nm_long h8)
    have e2 : 8 < (s.size : Int) := by omega
    go_enter Tryz.func346, Tryz.ntmps346
    go_wp2
    go_ret
    exact ⟨ret_bool H.out, rfl⟩
  have e2 : ¬ 8 < (s.size : Int) := by omega
  cases h3 : slB (bt s 0)
  · have H := Lib.hid (nm_first h3)
    go_enter Tryz.func346, Tryz.ntmps346
    go_wp2_with (go_at_call 348; refine (small_any _ _).mono ?_; rw [h3]; rintro e w1 ⟨rfl, rfl⟩)
    go_ret
    exact ⟨ret_bool H.out, rfl⟩
  · go_enter Tryz.func346, Tryz.ntmps346
    go_wp2_with (go_at_call 348; refine (small_any _ _).mono ?_; rw [h3]; rintro e w1 ⟨rfl, rfl⟩)
    go_loopw [20] (fun i wr => RelN w s i wr) (fun i _ => s.size - (intOf i).toNat)
    case atStart => exact ⟨0, rfl, Nat.zero_le _, fun j hj => absurd hj (by omega), rfl⟩
    case round =>
      obtain ⟨k, rfl, hk, hd, rfl⟩ := hrel
      have HD := Lib.hid hd
      clear hd
      by_cases hk1 : k < s.size
      · have i0 : (0 : Int) ≤ (k : Int) := by omega
        have i1 : (k : Int) < (s.size : Int) := by omega
        have T7 : IntKind.i64.wrap ((k : Int) + 1) = (k : Int) + 1 := IntWalk.i64_in _ (by omega)
        cases c1 : slB (bt s k)
        · cases c2 : dgB (bt s k)
          · have H := Lib.hid (nm_no hk1 (show chB (bt s k) = false by unfold chB; rw [c1, c2]; rfl))
            go_wp2_with (first | (go_at_call 348; refine (small_any _ _).mono ?_; rw [c1]; rintro e w1 ⟨rfl, rfl⟩) | (go_at_call 349; refine (digit_any _ _).mono ?_; rw [c2]; rintro e w1 ⟨rfl, rfl⟩))
            go_ret
            exact ⟨ret_bool H.out, rfl⟩
          · have H := Lib.hid (show chB (bt s k) = true by unfold chB; rw [c1, c2]; rfl)
            go_wp2_with (first | (go_at_call 348; refine (small_any _ _).mono ?_; rw [c1]; rintro e w1 ⟨rfl, rfl⟩) | (go_at_call 349; refine (digit_any _ _).mono ?_; rw [c2]; rintro e w1 ⟨rfl, rfl⟩))
            go_roundw
            case rel => exact ⟨k + 1, by go_num, by omega, fun j hj => by rcases Nat.lt_or_ge j k with g | g; exact HD.out j g; exact (show j = k by omega) ▸ H.out, rfl⟩
            case measure => simp [intOf]; omega
        · have H := Lib.hid (show chB (bt s k) = true by unfold chB; rw [c1]; rfl)
          go_wp2_with (first | (go_at_call 348; refine (small_any _ _).mono ?_; rw [c1]; rintro e w1 ⟨rfl, rfl⟩) | (go_at_call 349; refine (digit_any _ _).mono ?_; rintro e w1 ⟨rfl, rfl⟩))
          go_roundw
          case rel => exact ⟨k + 1, by go_num, by omega, fun j hj => by rcases Nat.lt_or_ge j k with g | g; exact HD.out j g; exact (show j = k by omega) ▸ H.out, rfl⟩
          case measure => simp [intOf]; omega
      · obtain rfl : k = s.size := by omega
        have H := Lib.hid (nm_all (by omega) (by omega) h3 HD.out)
        go_wp2
        go_ret
        exact ⟨ret_bool H.out, rfl⟩
end Go.Proofs.YtmlojndkpnhalaaGreat.Crs
namespace Go.Proofs.YtmlojndkpnhalaaGreat.Crs
open Go.ChangeShapes Go.WideShapes Go.ChangeAt Go.RowKit Go.PlainAid
open Go.Proofs.YtmlojndkpnhalaaGreat.Num Go.Proofs.YtmlojndkpnhalaaGreat.Kit Go.Proofs.YtmlojndkpnhalaaGreat.Pts Go.Proofs.YtmlojndkpnhalaaGreat.Seg
set_option linter.unusedVariables false
set_option linter.unusedSimpArgs false
theorem ch_no {n : Int} (h : slB n = false) (g : dgB n = false) : chB n = false := by unfold chB; rw [h, g]; rfl
set_option maxHeartbeats 2000000 in
theorem name_spec (s : ByteArray) (w : World) (hs : s.size ≤ maxLen) : Calls Tryz.prog 204 #[.string s] w fun e w' => e = .returned (.bool (nmB s)) ∧ w = w' := by
  have hb := get_bt s
  unfold maxLen at hs
  by_cases h1 : s.size < 1
  · have H := Lib.hid (nm_short h1)
    have e1 : (s.size : Int) < 1 := by omega
    go_enter Tryz.func204, Tryz.ntmps204
    go_wp2
    go_ret
    exact ⟨ret_bool H.out, rfl⟩
  have e1 : ¬ (s.size : Int) < 1 := by omega
  have p0 : 0 < s.size := by omega
  have p1 : (0 : Int) < (s.size : Int) := by omega
  by_cases h8 : 8 < s.size
  · have H := Lib.hid (nm_long h8)
    have e2 : 8 < (s.size : Int) := by omega
    go_enter Tryz.func204, Tryz.ntmps204
    go_wp2
    go_ret
    exact ⟨ret_bool H.out, rfl⟩
  have e2 : ¬ 8 < (s.size : Int) := by omega
  by_cases a1 : bt s 0 < 97
  · have H := Lib.hid (nm_first (show slB (bt s 0) = false from inB_no (by omega)))
    go_enter Tryz.func204, Tryz.ntmps204
    go_wp2
    go_ret
    exact ⟨ret_bool H.out, rfl⟩
  by_cases a2 : 122 < bt s 0
  · have H := Lib.hid (nm_first (show slB (bt s 0) = false from inB_no (by omega)))
    go_enter Tryz.func204, Tryz.ntmps204
    go_wp2
    go_ret
    exact ⟨ret_bool H.out, rfl⟩
  · have h3 := Lib.hid (show slB (bt s 0) = true from inB_yes (by omega) (by omega))
    go_enter Tryz.func204, Tryz.ntmps204
    go_wp2
    go_loopw [3] (fun i wr => RelN w s i wr) (fun i _ => s.size - (intOf i).toNat)
    case atStart => exact ⟨0, rfl, Nat.zero_le _, fun j hj => absurd hj (by omega), rfl⟩
    case round =>
      obtain ⟨k, rfl, hk, hd, rfl⟩ := hrel
      have HD := Lib.hid hd
      clear hd
      by_cases hk1 : k < s.size
      · have i0 : (0 : Int) ≤ (k : Int) := by omega
        have i1 : (k : Int) < (s.size : Int) := by omega
        have T7 : IntKind.i64.wrap ((k : Int) + 1) = (k : Int) + 1 := IntWalk.i64_in _ (by omega)
        by_cases c1 : bt s k < 97
        · have n1 := Lib.hid (show slB (bt s k) = false from inB_no (by omega))
          by_cases c3 : bt s k < 48
          · have H := Lib.hid (nm_no hk1 (ch_no n1.out (show dgB (bt s k) = false from inB_no (by omega))))
            go_wp2
            go_ret
            exact ⟨ret_bool H.out, rfl⟩
          by_cases c4 : 57 < bt s k
          · have H := Lib.hid (nm_no hk1 (ch_no n1.out (show dgB (bt s k) = false from inB_no (by omega))))
            go_wp2
            go_ret
            exact ⟨ret_bool H.out, rfl⟩
          · have H := Lib.hid (show chB (bt s k) = true by unfold chB; rw [n1.out, show dgB (bt s k) = true from inB_yes (by omega) (by omega)]; rfl)
            go_wp2
            go_roundw
            case rel => exact ⟨k + 1, by go_num, by omega, fun j hj => by rcases Nat.lt_or_ge j k with g | g; exact HD.out j g; exact (show j = k by omega) ▸ H.out, rfl⟩
            case measure => simp [intOf]; omega
        · by_cases c2 : 122 < bt s k
          · have n1 := Lib.hid (show slB (bt s k) = false from inB_no (by omega))
            have c3 : ¬ bt s k < 48 := by omega
            have c4 : 57 < bt s k := by omega
            have H := Lib.hid (nm_no hk1 (ch_no n1.out (show dgB (bt s k) = false from inB_no (by omega))))
            go_wp2
            go_ret
            exact ⟨ret_bool H.out, rfl⟩
          · have H := Lib.hid (show chB (bt s k) = true by unfold chB; rw [show slB (bt s k) = true from inB_yes (by omega) (by omega)]; rfl)
            go_wp2
            go_roundw
            case rel => exact ⟨k + 1, by go_num, by omega, fun j hj => by rcases Nat.lt_or_ge j k with g | g; exact HD.out j g; exact (show j = k by omega) ▸ H.out, rfl⟩
            case measure => simp [intOf]; omega
      · obtain rfl : k = s.size := by omega
        have H := Lib.hid (nm_all (by omega) (by omega) h3.out HD.out)
        go_wp2
        go_ret
        exact ⟨ret_bool H.out, rfl⟩
def mkB (m : M5) : Bool := nmB m.n && (ptB m.x m.y && (inB m.s 1 2 && inB m.z 1 5000))
theorem mark_impl (m : M5) (w : World) (hs : m.n.size ≤ maxLen) : Calls Tryz.prog 344 #[MV m] w fun e w' => e = .returned (.bool (mkB m)) ∧ Ext w w' := by
  obtain ⟨n, x, y, s, z⟩ := m
  have HS := Lib.hid hs
  clear hs
  have H := Lib.hid (show mkB ⟨n, x, y, s, z⟩ = (nmB n && (ptB x y && (inB s 1 2 && inB z 1 5000))) from rfl)
  cases h1 : nmB n
  · rw [h1] at H
    go_enter Tryz.func344, Tryz.ntmps344
    go_wp2_with (first | (go_at_call 346; refine (name_impl _ _ HS.out).mono ?_; rw [h1]; rintro e w1 ⟨rfl, rfl⟩))
    go_ret
    exact ⟨ret_bool H.out, (by repeat (first | exact Ext.refl _ | assumption | apply Ext.alloc | apply Ext.drew | (refine Ext.trans ?_ (by assumption)) | (refine Ext.setNew ?_ (by simp <;> omega) _)))⟩
  cases h2 : ptB x y
  · rw [h1, h2] at H
    go_enter Tryz.func344, Tryz.ntmps344
    go_wp2_with (first | (go_at_call 346; refine (name_impl _ _ HS.out).mono ?_; rw [h1]; rintro e w1 ⟨rfl, rfl⟩) | (go_at_call 168; refine (isValid_any _ _ _).mono ?_; rw [h2]; rintro e w1 ⟨rfl, hx⟩; obtain ⟨hc, hf⟩ := hx.facts; have hz := hx.size; (try simp at hz); (try (have hz0 : w.heap.size < w1.heap.size := by omega)); (try (have hz1 : w.heap.size + 1 < w1.heap.size := by omega)); (try (have hz2 : w.heap.size + 1 + 1 < w1.heap.size := by omega)); (try (have hz3 : w.heap.size + 1 + 1 + 1 < w1.heap.size := by omega))))
    go_ret
    exact ⟨ret_bool H.out, (by repeat (first | exact Ext.refl _ | assumption | apply Ext.alloc | apply Ext.drew | (refine Ext.trans ?_ (by assumption)) | (refine Ext.setNew ?_ (by simp <;> omega) _)))⟩
  cases h3 : inB s 1 2
  · rw [h1, h2, h3] at H
    go_enter Tryz.func344, Tryz.ntmps344
    go_wp2_with (first | (go_at_call 346; refine (name_impl _ _ HS.out).mono ?_; rw [h1]; rintro e w1 ⟨rfl, rfl⟩) | (go_at_call 168; refine (isValid_any _ _ _).mono ?_; rw [h2]; rintro e w1 ⟨rfl, hx⟩; obtain ⟨hc, hf⟩ := hx.facts; have hz := hx.size; (try simp at hz); (try (have hz0 : w.heap.size < w1.heap.size := by omega)); (try (have hz1 : w.heap.size + 1 < w1.heap.size := by omega)); (try (have hz2 : w.heap.size + 1 + 1 < w1.heap.size := by omega)); (try (have hz3 : w.heap.size + 1 + 1 + 1 < w1.heap.size := by omega))) | (go_at_call 347; refine (side_any _ _).mono ?_; rw [h3]; rintro e w1 ⟨rfl, rfl⟩))
    go_ret
    exact ⟨ret_bool H.out, (by repeat (first | exact Ext.refl _ | assumption | apply Ext.alloc | apply Ext.drew | (refine Ext.trans ?_ (by assumption)) | (refine Ext.setNew ?_ (by simp <;> omega) _)))⟩
  rw [h1, h2, h3] at H
  have HZ : (inB z 1 5000 = true ∧ 1 ≤ z ∧ z ≤ 5000) ∨ (inB z 1 5000 = false ∧ ¬ 1 ≤ z) ∨ (inB z 1 5000 = false ∧ 1 ≤ z ∧ ¬ z ≤ 5000) := by
    by_cases a : 1 ≤ z
    · by_cases b : z ≤ 5000
      · exact .inl ⟨inB_yes a b, a, b⟩
      · exact .inr (.inr ⟨inB_no (by omega), a, b⟩)
    · exact .inr (.inl ⟨inB_no (by omega), a⟩)
  rcases HZ with ⟨h4, a, b⟩ | ⟨h4, a⟩ | ⟨h4, a, b⟩
  all_goals
    rw [h4] at H
    go_enter Tryz.func344, Tryz.ntmps344
    go_wp2_with (first | (go_at_call 346; refine (name_impl _ _ HS.out).mono ?_; rw [h1]; rintro e w1 ⟨rfl, rfl⟩) | (go_at_call 168; refine (isValid_any _ _ _).mono ?_; rw [h2]; rintro e w1 ⟨rfl, hx⟩; obtain ⟨hc, hf⟩ := hx.facts; have hz := hx.size; (try simp at hz); (try (have hz0 : w.heap.size < w1.heap.size := by omega)); (try (have hz1 : w.heap.size + 1 < w1.heap.size := by omega)); (try (have hz2 : w.heap.size + 1 + 1 < w1.heap.size := by omega)); (try (have hz3 : w.heap.size + 1 + 1 + 1 < w1.heap.size := by omega))) | (go_at_call 347; refine (side_any _ _).mono ?_; rw [h3]; rintro e w1 ⟨rfl, rfl⟩))
    go_ret
    first | exact ⟨ret_bool H.out, (by repeat (first | exact Ext.refl _ | assumption | apply Ext.alloc | apply Ext.drew | (refine Ext.trans ?_ (by assumption)) | (refine Ext.setNew ?_ (by simp <;> omega) _)))⟩ | exact ⟨ret_bool (by rw [H.out]; simp; omega), (by repeat (first | exact Ext.refl _ | assumption | apply Ext.alloc | apply Ext.drew | (refine Ext.trans ?_ (by assumption)) | (refine Ext.setNew ?_ (by simp <;> omega) _)))⟩
theorem mark_spec (m : M5) (w : World) (hs : m.n.size ≤ maxLen) : Calls Tryz.prog 141 #[MV m] w fun e w' => e = .returned (.bool (mkB m)) ∧ Ext w w' := by
  obtain ⟨n, x, y, s, z⟩ := m
  have HS := Lib.hid hs
  clear hs
  have H := Lib.hid (show mkB ⟨n, x, y, s, z⟩ = (nmB n && (ptB x y && (inB s 1 2 && inB z 1 5000))) from rfl)
  cases h1 : nmB n
  · rw [h1] at H
    go_enter Tryz.func141, Tryz.ntmps141
    go_wp2_with (first | (go_at_call 204; refine (name_spec _ _ HS.out).mono ?_; rw [h1]; rintro e w1 ⟨rfl, rfl⟩))
    go_ret
    exact ⟨ret_bool H.out, (by repeat (first | exact Ext.refl _ | assumption | apply Ext.alloc | apply Ext.drew | (refine Ext.trans ?_ (by assumption)) | (refine Ext.setNew ?_ (by simp <;> omega) _)))⟩
  cases h2 : ptB x y
  · rw [h1, h2] at H
    go_enter Tryz.func141, Tryz.ntmps141
    go_wp2_with (first | (go_at_call 204; refine (name_spec _ _ HS.out).mono ?_; rw [h1]; rintro e w1 ⟨rfl, rfl⟩) | (go_at_call 134; refine (isPoint_spec _ _ _).mono ?_; rw [h2]; rintro e w1 ⟨rfl, hx⟩; obtain ⟨hc, hf⟩ := hx.facts; have hz := hx.size; (try simp at hz); (try (have hz0 : w.heap.size < w1.heap.size := by omega)); (try (have hz1 : w.heap.size + 1 < w1.heap.size := by omega)); (try (have hz2 : w.heap.size + 1 + 1 < w1.heap.size := by omega)); (try (have hz3 : w.heap.size + 1 + 1 + 1 < w1.heap.size := by omega))))
    go_ret
    exact ⟨ret_bool H.out, (by repeat (first | exact Ext.refl _ | assumption | apply Ext.alloc | apply Ext.drew | (refine Ext.trans ?_ (by assumption)) | (refine Ext.setNew ?_ (by simp <;> omega) _)))⟩
  cases h3 : inB s 1 2
  · rw [h1, h2, h3] at H
    go_enter Tryz.func141, Tryz.ntmps141
    go_wp2_with (first | (go_at_call 204; refine (name_spec _ _ HS.out).mono ?_; rw [h1]; rintro e w1 ⟨rfl, rfl⟩) | (go_at_call 134; refine (isPoint_spec _ _ _).mono ?_; rw [h2]; rintro e w1 ⟨rfl, hx⟩; obtain ⟨hc, hf⟩ := hx.facts; have hz := hx.size; (try simp at hz); (try (have hz0 : w.heap.size < w1.heap.size := by omega)); (try (have hz1 : w.heap.size + 1 < w1.heap.size := by omega)); (try (have hz2 : w.heap.size + 1 + 1 < w1.heap.size := by omega)); (try (have hz3 : w.heap.size + 1 + 1 + 1 < w1.heap.size := by omega))) | (go_at_call 82; refine (in_any _ _ _ _).mono ?_; rw [h3]; rintro e w1 ⟨rfl, rfl⟩))
    go_ret
    exact ⟨ret_bool H.out, (by repeat (first | exact Ext.refl _ | assumption | apply Ext.alloc | apply Ext.drew | (refine Ext.trans ?_ (by assumption)) | (refine Ext.setNew ?_ (by simp <;> omega) _)))⟩
  rw [h1, h2, h3] at H
  cases h4 : inB z 1 5000
  all_goals
    rw [h4] at H
    go_enter Tryz.func141, Tryz.ntmps141
    go_wp2_with (first | (go_at_call 204; refine (name_spec _ _ HS.out).mono ?_; rw [h1]; rintro e w1 ⟨rfl, rfl⟩) | (go_at_call 134; refine (isPoint_spec _ _ _).mono ?_; rw [h2]; rintro e w1 ⟨rfl, hx⟩; obtain ⟨hc, hf⟩ := hx.facts; have hz := hx.size; (try simp at hz); (try (have hz0 : w.heap.size < w1.heap.size := by omega)); (try (have hz1 : w.heap.size + 1 < w1.heap.size := by omega)); (try (have hz2 : w.heap.size + 1 + 1 < w1.heap.size := by omega)); (try (have hz3 : w.heap.size + 1 + 1 + 1 < w1.heap.size := by omega))) | (go_at_call 82; with_reducible refine (in_any s 1 2 _).mono ?_; rw [h3]; rintro e w1 ⟨rfl, rfl⟩) | (go_at_call 82; with_reducible refine (in_any z 1 5000 _).mono ?_; rw [h4]; rintro e w1 ⟨rfl, rfl⟩))
    go_ret
    exact ⟨ret_bool H.out, (by repeat (first | exact Ext.refl _ | assumption | apply Ext.alloc | apply Ext.drew | (refine Ext.trans ?_ (by assumption)) | (refine Ext.setNew ?_ (by simp <;> omega) _)))⟩
def ixO (ms : List M5) (n : ByteArray) : Option Nat := (List.range ms.length).find? fun k => decide ((mk ms k).n = n)
def ixI (ms : List M5) (n : ByteArray) : Int := match ixO ms n with | some k => (k : Int) | none => -1
theorem ix_yes {ms : List M5} {n : ByteArray} {k : Nat} (hk : k < ms.length) (h : (mk ms k).n = n) (hd : ∀ j, j < k → ¬ (mk ms j).n = n) : ixI ms n = k := by
  have e : ixO ms n = some k := by
    unfold ixO
    rw [List.find?_range_eq_some]
    exact ⟨by simpa using h, by simpa using hk, fun j hj => by simpa using hd j hj⟩
  unfold ixI; rw [e]
theorem ix_none {ms : List M5} {n : ByteArray} (hd : ∀ j, j < ms.length → ¬ (mk ms j).n = n) : ixI ms n = -1 := by
  have e : ixO ms n = none := by
    unfold ixO
    rw [List.find?_eq_none]
    intro j hj
    simpa using hd j (by simpa using hj)
  unfold ixI; rw [e]
theorem ne_list {a b : ByteArray} (h : ¬ a = b) : (a.toList == b.toList) = false := by
  refine beq_eq_false_iff_ne.2 fun e => h ?_
  rw [ByteArray.toList_eq, ByteArray.toList_eq] at e
  exact bytes_inj e
abbrev Ptr (k : Nat) : Value := .pointer (some ⟨k, 0, none⟩)
theorem same_any (m : M5) (n : ByteArray) (k : Nat) (w : World) (hk : w.cell? ⟨k, 0, none⟩ = some (.string n)) :
    Calls Tryz.prog 289 #[MV m, Ptr k] w fun e w' => e = .returned (.bool (decide (m.n = n))) ∧ Ext w w' := by
  obtain ⟨a, x, y, s, z⟩ := m
  have hk2 : ∀ A, (w.alloc A).cell? ⟨k, 0, none⟩ = some (.string n) := fun A => ((Ext.refl w).alloc A).cellOf hk
  by_cases h : a = n
  · have H := Lib.hid (show decide (a = n) = true from decide_eq_true h)
    go_enter Tryz.func289, Tryz.ntmps289
    go_wp2
    go_ret
    exact ⟨ret_bool H.out, (by repeat (first | exact Ext.refl _ | assumption | apply Ext.alloc | apply Ext.drew | (refine Ext.trans ?_ (by assumption)) | (refine Ext.setNew ?_ (by simp <;> omega) _)))⟩
  · have H := Lib.hid (show decide (a = n) = false from decide_eq_false h)
    have hq := ne_list h
    go_enter Tryz.func289, Tryz.ntmps289
    go_wp2
    go_ret
    exact ⟨ret_bool H.out, (by repeat (first | exact Ext.refl _ | assumption | apply Ext.alloc | apply Ext.drew | (refine Ext.trans ?_ (by assumption)) | (refine Ext.setNew ?_ (by simp <;> omega) _)))⟩
def RelI (w : World) (ms : List M5) (n : ByteArray) (i : Value) (wr : World) : Prop := ∃ k : Nat, i = .int .i64 k ∧ k ≤ ms.length ∧ (∀ j, j < k → ¬ (mk ms j).n = n) ∧ Ext w wr
set_option maxHeartbeats 1000000 in
theorem indexFunc_any (a : Option Addr) (cap : Nat) (ms : List M5) (n : ByteArray) (k : Nat) (w : World) (hf : Mks w a ms) (hk : w.cell? ⟨k, 0, none⟩ = some (.string n)) :
    Calls Tryz.prog 288 #[.slice a ms.length cap, .func (.func 289) #[] #[Ptr k]] w fun e w' => e = .returned (.int .i64 (ixI ms n)) ∧ Ext w w' := by
  have hm := hf.1.1
  unfold maxLen at hm
  have HF := Lib.hid hf
  have HK := Lib.hid hk
  clear hf hk
  go_enter Tryz.func288, Tryz.ntmps288
  go_wp2
  go_loopw [8] (fun i wr => RelI w ms n i wr) (fun i _ => ms.length - (intOf i).toNat)
  case atStart => exact ⟨0, rfl, Nat.zero_le _, fun j hj => absurd hj (by omega), Ext.refl _⟩
  case round =>
    obtain ⟨j, rfl, hj, hd, hx⟩ := hrel
    have HD := Lib.hid hd
    have HX := Lib.hid hx
    clear hd hx
    by_cases hj1 : j < ms.length
    · obtain ⟨b, off, rfl, hb⟩ := HF.out.row (by omega)
      obtain ⟨c0, c1, c2, c3, c4⟩ := (hb j hj1).ext HX.out
      have i0 : (0 : Int) ≤ (j : Int) := by omega
      have i1 : (j : Int) < (ms.length : Int) := by omega
      have T7 : IntKind.i64.wrap ((j : Int) + 1) = (j : Int) + 1 := IntWalk.i64_in _ (by omega)
      have hc := same_any (mk ms j) n k wr (HX.out.cellOf HK.out)
      clear hb
      by_cases h : (mk ms j).n = n
      · rw [decide_eq_true h] at hc
        have H := Lib.hid (ix_yes hj1 h HD.out)
        clear h
        go_wp2_with (go_at_call 289; refine hc.mono ?_; rintro e w1 ⟨rfl, hy⟩)
        go_ret
        exact ⟨ret_int H.out, HX.out.trans hy⟩
      · rw [decide_eq_false h] at hc
        have H := Lib.hid h
        clear h
        go_wp2_with (go_at_call 289; refine hc.mono ?_; rintro e w1 ⟨rfl, hy⟩)
        have HY := Lib.hid (HX.out.trans hy)
        clear hy
        go_roundw
        case rel => exact ⟨j + 1, by go_num, by omega, fun x hx => by rcases Nat.lt_or_ge x j with g | g; exact HD.out x g; exact (show x = j by omega) ▸ H.out, HY.out⟩
        case measure => simp [intOf]; omega
    · obtain rfl : j = ms.length := by omega
      have H := Lib.hid (ix_none HD.out)
      go_wp2
      go_ret
      exact ⟨ret_int H.out, HX.out⟩
theorem markIndex_any (l k : L4) (a : Option Addr) (cap : Nat) (ms : List M5) (n : ByteArray) (w : World) (hf : Mks w a ms) :
    Calls Tryz.prog 241 #[CV l k (.slice a ms.length cap), .string n] w fun e w' => e = .returned (.int .i64 (ixI ms n)) ∧ Ext w w' := by
  have HF := Lib.hid hf
  clear hf
  go_enter Tryz.func241, Tryz.ntmps241
  go_wp2_with fail
  refine (indexFunc_any _ _ _ n _ _ (HF.out.ext (by repeat (first | exact Ext.refl _ | assumption | apply Ext.alloc | apply Ext.drew | (refine Ext.trans ?_ (by assumption)) | (refine Ext.setNew ?_ (by simp <;> omega) _)))) (boxed 0 rfl (by simp))).mono ?_
  rintro e w1 ⟨rfl, hx⟩
  go_wp2
  go_ret
  exact ⟨rfl, (by repeat (first | exact Ext.refl _ | assumption | apply Ext.alloc | apply Ext.drew | (refine Ext.trans ?_ (by assumption)) | (refine Ext.setNew ?_ (by simp <;> omega) _)))⟩
set_option maxHeartbeats 1000000 in
theorem named_spec (l k : L4) (a : Option Addr) (cap : Nat) (ms : List M5) (n : ByteArray) (w : World) (hf : Mks w a ms) :
    Calls Tryz.prog 142 #[CV l k (.slice a ms.length cap), .string n] w fun e w' => e = .returned (.int .i64 (ixI ms n)) ∧ Ext w w' := by
  have hm := hf.1.1
  unfold maxLen at hm
  obtain ⟨W0, hW0⟩ : ∃ W0, W0 = w.alloc (.cells (cellsC l k (.slice a ms.length cap)).toArray 30) := ⟨_, rfl⟩
  have HW := Lib.hid (show Ext w W0 from hW0 ▸ (Ext.refl w).alloc _)
  have HF := Lib.hid (hf.ext HW.out)
  have bt8 : ∀ w', Ext W0 w' → w'.cell? ⟨w.heap.size, 8, none⟩ = some (.slice a ms.length cap) := fun w' h => h.cellOf (hW0 ▸ boxed 8 rfl rfl)
  clear hf
  go_enter Tryz.func142, Tryz.ntmps142
  go_wp2
  rw [← hW0]
  go_loopw [5] (fun i wr => RelI W0 ms n i wr) (fun i _ => ms.length - (intOf i).toNat)
  case atStart => exact ⟨0, rfl, Nat.zero_le _, fun j hj => absurd hj (by omega), Ext.refl _⟩
  case round =>
    obtain ⟨j, rfl, hj, hd, hx⟩ := hrel
    have HD := Lib.hid hd
    have HX := Lib.hid hx
    have b8 := bt8 _ hx
    clear hd hx
    by_cases hj1 : j < ms.length
    · obtain ⟨b, off, rfl, hb⟩ := HF.out.row (by omega)
      obtain ⟨c0, c1, c2, c3, c4⟩ := (hb j hj1).ext HX.out
      have i0 : (0 : Int) ≤ (j : Int) := by omega
      have i1 : (j : Int) < (ms.length : Int) := by omega
      have T7 : IntKind.i64.wrap ((j : Int) + 1) = (j : Int) + 1 := IntWalk.i64_in _ (by omega)
      clear hb
      by_cases h : (mk ms j).n = n
      · have H := Lib.hid (ix_yes hj1 h HD.out)
        go_wp2
        go_ret
        exact ⟨ret_int H.out, HW.out.trans HX.out⟩
      · have H := Lib.hid h
        have hq := ne_list h
        go_wp2
        go_roundw
        case rel => exact ⟨j + 1, by go_num, by omega, fun x hx => by rcases Nat.lt_or_ge x j with g | g; exact HD.out x g; exact (show x = j by omega) ▸ H.out, HX.out⟩
        case measure => simp [intOf]; omega
    · obtain rfl : j = ms.length := by omega
      have H := Lib.hid (ix_none HD.out)
      go_wp2
      go_ret
      exact ⟨ret_int H.out, HW.out.trans HX.out⟩
end Go.Proofs.YtmlojndkpnhalaaGreat.Crs
