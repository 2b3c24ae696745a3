/- Conversion and comparison of courses (laws), and opening a course that came in. -/
import Derived.Test.YtcangdcakgcpaaaMks
import Derived.Lib.SmallJoins
import Derived.OpenShut
import Derived.Deep.Slices
import Derived.Deep.Fields
import Derived.ChangeSame
namespace Go.Proofs.Ytcangdcakgcpaaa.Crs
open Go.ChangeShapes Go.WideShapes Go.ChangeAt Go.RowKit Go.Deep
open Go.Proofs.Ytcangdcakgcpaaa.Num Go.Proofs.Ytcangdcakgcpaaa.Kit Go.Proofs.Ytcangdcakgcpaaa.Pts Go.Proofs.Ytcangdcakgcpaaa.Seg
set_option linter.unusedVariables false
set_option linter.unusedSimpArgs false

theorem Box.nine {w : World} {n : Nat} {a b c d e f g h i : Value} (B : Box w n [a, b, c, d, e, f, g, h, i]) :
    (w.cell? ⟨n, 0, none⟩ = some a ∧ w.cell? ⟨n, 1, none⟩ = some b ∧ w.cell? ⟨n, 2, none⟩ = some c ∧ w.cell? ⟨n, 3, none⟩ = some d ∧ w.cell? ⟨n, 4, none⟩ = some e ∧ w.cell? ⟨n, 5, none⟩ = some f ∧ w.cell? ⟨n, 6, none⟩ = some g ∧ w.cell? ⟨n, 7, none⟩ = some h ∧ w.cell? ⟨n, 8, none⟩ = some i) ∧
    w.frozen? ⟨n, 0, none⟩ = false ∧ w.frozen? ⟨n, 1, none⟩ = false ∧ w.frozen? ⟨n, 2, none⟩ = false ∧ w.frozen? ⟨n, 3, none⟩ = false ∧ w.frozen? ⟨n, 4, none⟩ = false ∧ w.frozen? ⟨n, 5, none⟩ = false ∧ w.frozen? ⟨n, 6, none⟩ = false ∧ w.frozen? ⟨n, 7, none⟩ = false ∧ w.frozen? ⟨n, 8, none⟩ = false :=
  ⟨⟨(B 0 _ rfl).1, (B 1 _ rfl).1, (B 2 _ rfl).1, (B 3 _ rfl).1, (B 4 _ rfl).1, (B 5 _ rfl).1, (B 6 _ rfl).1, (B 7 _ rfl).1, (B 8 _ rfl).1⟩, (B 0 _ rfl).2, (B 1 _ rfl).2, (B 2 _ rfl).2, (B 3 _ rfl).2, (B 4 _ rfl).2, (B 5 _ rfl).2, (B 6 _ rfl).2, (B 7 _ rfl).2, (B 8 _ rfl).2⟩
abbrev cellsC (l k : L4) (v : Value) : List Value := [.int .i64 l.a, .int .i64 l.b, .int .i64 l.c, .int .i64 l.d, .int .i64 k.a, .int .i64 k.b, .int .i64 k.c, .int .i64 k.d, v]
abbrev zeroL : L4 := ⟨0, 0, 0, 0⟩
abbrev put4 (w : World) (B o : Nat) (a b c d : Value) : World := (((w.setCell ⟨B, o, none⟩ a).setCell ⟨B, o + 1, none⟩ b).setCell ⟨B, o + 2, none⟩ c).setCell ⟨B, o + 3, none⟩ d
theorem Box.put4_away {w : World} {n B o : Nat} {vs : List Value} {a b c d : Value} (h : Box w n vs) (hn : B ≠ n) : Box (put4 w B o a b c d) n vs := (((h.away hn _).away hn _).away hn _).away hn _

theorem Own.set {w : World} {B n i : Nat} {ms : List M5} (h : Own w B ms) (hn : B ≠ n) (u : Value) : Own (w.setCell ⟨n, i, none⟩ u) B ms := h.away ((Chg.refl n w).setCell i u) hn

/-- What toCourse leaves: a course with a new row of the same marks. -/
def NewC (w : World) (l k : L4) (ms : List M5) (e : Ending) (w' : World) : Prop := ∃ B, e = .returned (CV l k (.slice (some ⟨B, 0, none⟩) ms.length ms.length)) ∧ w.heap.size ≤ B ∧ Own w' B ms ∧ Ext w w'

end Go.Proofs.Ytcangdcakgcpaaa.Crs
