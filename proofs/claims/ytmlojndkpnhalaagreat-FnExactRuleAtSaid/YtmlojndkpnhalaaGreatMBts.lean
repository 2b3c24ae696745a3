import Derived.Test.YtmlojndkpnhalaaGreatMnv
import Derived.Test.YtmlojndkpnhalaaGreatHulL
import Derived.Deep.QuietTactic
import Derived.BigQuiet
import Derived.Lib.SmallJoins
import Derived.OpenShut
import Derived.Deep.Slices
import Derived.Deep.Fields
import Derived.ChangeSame
import Derived.Deep.DeepCutAuto
namespace Go.Proofs.YtmlojndkpnhalaaGreat.Bts
open Go.ChangeShapes Go.WideShapes Go.ChangeAt Go.RowKit Go.Deep
open Go.Proofs.YtmlojndkpnhalaaGreat.Num Go.Proofs.YtmlojndkpnhalaaGreat.Kit Go.Proofs.YtmlojndkpnhalaaGreat.Pts Go.Proofs.YtmlojndkpnhalaaGreat.Seg Go.Proofs.YtmlojndkpnhalaaGreat.Hul
open Go.Proofs.YtmlojndkpnhalaaGreat.Mnv (set_other RelE)
set_option linter.unusedVariables false
set_option linter.unusedSimpArgs false
structure B6 where
  a : Int
  b : Int
  c : Int
  d : Int
  n : Int
  s : Bool
def B6.cells (p : B6) : List Value := [.int .i64 p.a, .int .i64 p.b, .int .i64 p.c, .int .i64 p.d, .int .i64 p.n, .bool p.s]
abbrev B6.v (p : B6) : Value := .agg #[.int .i64 p.a, .int .i64 p.b, .int .i64 p.c, .int .i64 p.d, .int .i64 p.n, .bool p.s]
abbrev B6.h (p : B6) : Value := Hv p.a p.b p.c p.d p.n
def bx (bs : List B6) (i : Nat) : B6 := bs.getD i ⟨0, 0, 0, 0, 0, false⟩
def BAt (w : World) (b o : Nat) (p : B6) : Prop := ∀ j u, p.cells[j]? = some u → w.cell? ⟨b, o + j, none⟩ = some u
theorem BAt.ext {w w' : World} {b o : Nat} {p : B6} (h : BAt w b o p) (k : Ext w w') : BAt w' b o p := fun j u hj => k.cellOf (h j u hj)
def Bts (w : World) (a : Option Addr) (bs : List B6) : Prop :=
  bs.length ≤ maxLen ∧ (bs = [] ∨ ∃ b off, a = some ⟨b, off, none⟩ ∧ ∀ i, i < bs.length → BAt w b (off + i * 6) (bx bs i))
theorem Bts.ext {w w' : World} {a : Option Addr} {bs : List B6} (h : Bts w a bs) (k : Ext w w') : Bts w' a bs := by
  refine ⟨h.1, ?_⟩
  rcases h.2 with h | ⟨b, off, ha, h⟩
  · exact .inl h
  · exact .inr ⟨b, off, ha, fun i hi => (h i hi).ext k⟩
theorem Bts.row {w : World} {a : Option Addr} {bs : List B6} (h : Bts w a bs) (h0 : 0 < bs.length) : ∃ b off, a = some ⟨b, off, none⟩ ∧ ∀ i, i < bs.length → BAt w b (off + i * 6) (bx bs i) := by
  rcases h.2 with e | e
  · rw [e] at h0; simp at h0
  · exact e
def Own6 (w : World) (B : Nat) (bs : List B6) : Prop := ∀ i, i < bs.length → BAt w B (i * 6) (bx bs i) ∧ ∀ j, j < 6 → w.frozen? ⟨B, i * 6 + j, none⟩ = false
theorem Own6.ext {w w' : World} {B : Nat} {bs : List B6} (h : Own6 w B bs) (k : Ext w w') : Own6 w' B bs :=
  fun i hi => ⟨(h i hi).1.ext k, fun j hj => k.thawOf ((h i hi).1 j _ (List.getElem?_eq_getElem (show j < (bx bs i).cells.length by simp [B6.cells]; omega))) ((h i hi).2 j hj)⟩
end Go.Proofs.YtmlojndkpnhalaaGreat.Bts
namespace Go.Proofs.YtmlojndkpnhalaaGreat.Bts
open Go.ChangeShapes Go.WideShapes Go.ChangeAt Go.RowKit Go.PlainAid
open Go.Proofs.YtmlojndkpnhalaaGreat.Num Go.Proofs.YtmlojndkpnhalaaGreat.Kit Go.Proofs.YtmlojndkpnhalaaGreat.Pts Go.Proofs.YtmlojndkpnhalaaGreat.Seg Go.Proofs.YtmlojndkpnhalaaGreat.Hul
open Go.Proofs.YtmlojndkpnhalaaGreat.Mnv (set_other RelE)
set_option linter.unusedVariables false
set_option linter.unusedSimpArgs false
theorem Box.sixc {w : World} {n : Nat} {x y z u r s : Value} (h : Box w n [x, y, z, u, r, s]) : (w.cell? ⟨n, 0, none⟩ = some x ∧ w.cell? ⟨n, 1, none⟩ = some y ∧ w.cell? ⟨n, 2, none⟩ = some z ∧ w.cell? ⟨n, 3, none⟩ = some u ∧ w.cell? ⟨n, 4, none⟩ = some r ∧ w.cell? ⟨n, 5, none⟩ = some s) ∧
    w.frozen? ⟨n, 0, none⟩ = false ∧ w.frozen? ⟨n, 1, none⟩ = false ∧ w.frozen? ⟨n, 2, none⟩ = false ∧ w.frozen? ⟨n, 3, none⟩ = false ∧ w.frozen? ⟨n, 4, none⟩ = false ∧ w.frozen? ⟨n, 5, none⟩ = false :=
  ⟨⟨(h 0 x rfl).1, (h 1 y rfl).1, (h 2 z rfl).1, (h 3 u rfl).1, (h 4 r rfl).1, (h 5 s rfl).1⟩, (h 0 x rfl).2, (h 1 y rfl).2, (h 2 z rfl).2, (h 3 u rfl).2, (h 4 r rfl).2, (h 5 s rfl).2⟩
abbrev L6 (a b c d n : Int) (s : Bool) : List Value := [.int .i64 a, .int .i64 b, .int .i64 c, .int .i64 d, .int .i64 n, .bool s]
def BIn (L : List Value) (o : Nat) (p : B6) : Prop := ∀ j u, p.cells[j]? = some u → L[o + j]? = some u
def set6L (L : List Value) (o : Nat) (a b c d n s : Value) : List Value := (((((L.set o a).set (o + 1) b).set (o + 2) c).set (o + 3) d).set (o + 4) n).set (o + 5) s
theorem set6L_len (L : List Value) (o : Nat) (a b c d n s : Value) : (set6L L o a b c d n s).length = L.length := by simp [set6L]
theorem set6L_off {L : List Value} {o i : Nat} {a b c d n s : Value} (h : i < o ∨ o + 5 < i) : (set6L L o a b c d n s)[i]? = L[i]? := by
  unfold set6L
  rw [List.getElem?_set_ne (by omega), List.getElem?_set_ne (by omega), List.getElem?_set_ne (by omega), List.getElem?_set_ne (by omega), List.getElem?_set_ne (by omega), List.getElem?_set_ne (by omega)]
theorem set6L_in {L : List Value} {o : Nat} (p : B6) (h : o + 6 ≤ L.length) : BIn (set6L L o (.int .i64 p.a) (.int .i64 p.b) (.int .i64 p.c) (.int .i64 p.d) (.int .i64 p.n) (.bool p.s)) o p := by
  intro j u hj
  have hjl : j < 6 := (List.getElem?_eq_some_iff.1 hj).1
  unfold set6L
  rcases (show j = 0 ∨ j = 1 ∨ j = 2 ∨ j = 3 ∨ j = 4 ∨ j = 5 by omega) with rfl | rfl | rfl | rfl | rfl | rfl
  all_goals
    simp [B6.cells] at hj
    subst hj
    simp [List.getElem?_set]
    omega
theorem BIn.off {L : List Value} {o k : Nat} {p : B6} {a b c d n s : Value} (h : BIn L o p) (hk : o + 6 ≤ k) : BIn (set6L L k a b c d n s) o p := by
  intro j u hj
  have hjl : j < 6 := (List.getElem?_eq_some_iff.1 hj).1
  rw [set6L_off (.inl (by omega))]
  exact h j u hj
theorem Box.set6 {w : World} {B o : Nat} {L : List Value} (h : Box w B L) (ho : o + 6 ≤ L.length) (a b c d n s : Value) :
    Box ((((((w.setCell ⟨B, o, none⟩ a).setCell ⟨B, o + 1, none⟩ b).setCell ⟨B, o + 2, none⟩ c).setCell ⟨B, o + 3, none⟩ d).setCell ⟨B, o + 4, none⟩ n).setCell ⟨B, o + 5, none⟩ s) B (set6L L o a b c d n s) :=
  (((((h.set o (by omega) a).set (o + 1) (by simp; omega) b).set (o + 2) (by simp; omega) c).set (o + 3) (by simp; omega) d).set (o + 4) (by simp; omega) n).set (o + 5) (by simp; omega) s
def RelT6 (w : World) (bs : List B6) (i : Value) (wr : World) : Prop :=
  ∃ (k : Nat) (L : List Value), i = .int .i64 k ∧ k ≤ bs.length ∧ L.length = bs.length * 6 ∧ Box wr w.heap.size L ∧ (∀ j, j < k → BIn L (j * 6) (bx bs j)) ∧ Ext w wr
theorem RelT6.step {w w2 : World} {bs : List B6} {k : Nat} {L : List Value} (hk : k < bs.length) (hL : L.length = bs.length * 6) (hB : Box w2 w.heap.size L) (hd : ∀ j, j < k → BIn L (j * 6) (bx bs j)) (hx : Ext w w2) :
    RelT6 w bs (.int .i64 (k + 1)) ((((((w2.setCell ⟨w.heap.size, k * 6, none⟩ (.int .i64 (bx bs k).a)).setCell ⟨w.heap.size, k * 6 + 1, none⟩ (.int .i64 (bx bs k).b)).setCell ⟨w.heap.size, k * 6 + 2, none⟩ (.int .i64 (bx bs k).c)).setCell ⟨w.heap.size, k * 6 + 3, none⟩ (.int .i64 (bx bs k).d)).setCell ⟨w.heap.size, k * 6 + 4, none⟩ (.int .i64 (bx bs k).n)).setCell ⟨w.heap.size, k * 6 + 5, none⟩ (.bool (bx bs k).s)) := by
  refine ⟨k + 1, _, by go_num, by omega, ?_, Box.set6 hB (by omega) _ _ _ _ _ _, fun j hj => ?_, ?_⟩
  · rw [set6L_len]; exact hL
  · by_cases e : j = k
    · subst e; exact set6L_in _ (by omega)
    · exact (hd j (by omega)).off (by omega)
  · exact (((((hx.setNew (Nat.le_refl _) _).setNew (Nat.le_refl _) _).setNew (Nat.le_refl _) _).setNew (Nat.le_refl _) _).setNew (Nat.le_refl _) _).setNew (Nat.le_refl _) _
def RelMB (w : World) (B n : Nat) (k : Int) (s i : Value) (wr : World) : Prop :=
  ∃ (j : Nat) (L : List Value), i = .int .i64 j ∧ s = .int .i64 (k + 6 * j) ∧ j ≤ n ∧ L.length = n * 6 ∧ Box wr B L ∧ Chg B w wr
theorem RelMB.step {w wr : World} {B n j : Nat} {k K : Int} {L : List Value} (hj : j < n) (hL : L.length = n * 6) (hB : Box wr B L) (hx : Chg B w wr) (a b c d e s : Value) (hK : K = k + 6 * (j : Int) + 6) :
    RelMB w B n k (.int .i64 K) (.int .i64 ((j : Int) + 1)) ((((((wr.setCell ⟨B, j * 6, none⟩ a).setCell ⟨B, j * 6 + 1, none⟩ b).setCell ⟨B, j * 6 + 2, none⟩ c).setCell ⟨B, j * 6 + 3, none⟩ d).setCell ⟨B, j * 6 + 4, none⟩ e).setCell ⟨B, j * 6 + 5, none⟩ s) :=
  ⟨j + 1, _, by go_num, by rw [hK]; congr 1; omega, by omega, by rw [set6L_len]; exact hL, Box.set6 hB (by omega) _ _ _ _ _ _, (((((hx.setCell _ _).setCell _ _).setCell _ _).setCell _ _).setCell _ _).setCell _ _⟩
end Go.Proofs.YtmlojndkpnhalaaGreat.Bts
