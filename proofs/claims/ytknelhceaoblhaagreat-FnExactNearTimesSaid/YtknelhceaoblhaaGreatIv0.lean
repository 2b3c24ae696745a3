import Derived.Test.YtknelhceaoblhaaGreatMKit
import Derived.Test.YtknelhceaoblhaaGreatRes5
import Derived.OwnWalk
import Derived.Laws.OwnMore
namespace Go.Proofs.YtknelhceaoblhaaGreat.Iv
open Go.ChangeShapes Go.WideShapes Go.ChangeAt Go.RowKit
open Go.Proofs.YtknelhceaoblhaaGreat.Kit
set_option linter.unusedVariables false
set_option linter.unusedSimpArgs false
structure I5 where
  t : Int
  f : Int
  s : Int
  k : Int
  r : Int
deriving DecidableEq
abbrev V5 (a b c d e : Int) : Value := .agg #[.int .i64 a, .int .i64 b, .int .i64 c, .int .i64 d, .int .i64 e]
abbrev L5 (a b c d e : Int) : List Value := [.int .i64 a, .int .i64 b, .int .i64 c, .int .i64 d, .int .i64 e]
abbrev I5.v (x : I5) : Value := V5 x.t x.f x.s x.k x.r
def I5.cells (x : I5) : List Value := L5 x.t x.f x.s x.k x.r
def ix (xs : List I5) (i : Nat) : I5 := xs.getD i ⟨0, 0, 0, 0, 0⟩
def IAt (w : World) (b o : Nat) (p : I5) : Prop := ∀ j u, p.cells[j]? = some u → w.cell? ⟨b, o + j, none⟩ = some u
theorem IAt.ext {w w' : World} {b o : Nat} {p : I5} (h : IAt w b o p) (k : Ext w w') : IAt w' b o p := fun j u hj => k.cellOf (h j u hj)
theorem IAt.five {w : World} {b o : Nat} {p : I5} (h : IAt w b o p) : w.cell? ⟨b, o, none⟩ = some (.int .i64 p.t) ∧ w.cell? ⟨b, o + 1, none⟩ = some (.int .i64 p.f) ∧ w.cell? ⟨b, o + 2, none⟩ = some (.int .i64 p.s) ∧ w.cell? ⟨b, o + 3, none⟩ = some (.int .i64 p.k) ∧ w.cell? ⟨b, o + 4, none⟩ = some (.int .i64 p.r) :=
  ⟨h 0 _ rfl, h 1 _ rfl, h 2 _ rfl, h 3 _ rfl, h 4 _ rfl⟩
def Ivs (w : World) (a : Option Addr) (xs : List I5) : Prop :=
  xs.length ≤ maxLen ∧ (xs = [] ∨ ∃ b off, a = some ⟨b, off, none⟩ ∧ ∀ i, i < xs.length → IAt w b (off + i * 5) (ix xs i))
theorem Ivs.ext {w w' : World} {a : Option Addr} {xs : List I5} (h : Ivs w a xs) (k : Ext w w') : Ivs w' a xs := by
  refine ⟨h.1, ?_⟩
  rcases h.2 with h | ⟨b, off, ha, h⟩
  · exact .inl h
  · exact .inr ⟨b, off, ha, fun i hi => (h i hi).ext k⟩
theorem Ivs.row {w : World} {a : Option Addr} {xs : List I5} (h : Ivs w a xs) (h0 : 0 < xs.length) : ∃ b off, a = some ⟨b, off, none⟩ ∧ ∀ i, i < xs.length → IAt w b (off + i * 5) (ix xs i) := by
  rcases h.2 with e | e
  · rw [e] at h0; simp at h0
  · exact e
def IIn (L : List Value) (o : Nat) (p : I5) : Prop := ∀ j u, p.cells[j]? = some u → L[o + j]? = some u
def set5L (L : List Value) (o : Nat) (a b c d n : Value) : List Value := ((((L.set o a).set (o + 1) b).set (o + 2) c).set (o + 3) d).set (o + 4) n
theorem set5L_off {L : List Value} {o i : Nat} {a b c d n : Value} (h : i < o ∨ o + 4 < i) : (set5L L o a b c d n)[i]? = L[i]? := by
  unfold set5L
  rw [List.getElem?_set_ne (by omega), List.getElem?_set_ne (by omega), List.getElem?_set_ne (by omega), List.getElem?_set_ne (by omega), List.getElem?_set_ne (by omega)]
theorem IIn.off {L : List Value} {o k : Nat} {p : I5} {a b c d n : Value} (h : IIn L o p) (hk : o + 5 ≤ k) : IIn (set5L L k a b c d n) o p := by
  intro j u hj
  have hjl : j < 5 := (List.getElem?_eq_some_iff.1 hj).1
  rw [set5L_off (.inl (by omega))]
  exact h j u hj
end Go.Proofs.YtknelhceaoblhaaGreat.Iv
