/- Contracts of chapter 1's draws of points, continued: l01DrawAny, DrawTurnOf. -/
import Derived.Test.YthaioaaonnfabaaDraw2
import Derived.Outline
namespace Go.Proofs.Ythaioaaonnfabaa.Draw
open Go.ChangeShapes Go.WideShapes Go.ChangeAt Go.RowKit
open Go.Proofs.Ythaioaaonnfabaa.Num Go.Proofs.Ythaioaaonnfabaa.Kit Go.Proofs.Ythaioaaonnfabaa.Pts
set_option linter.unusedVariables false

/-- A pair of cells that may be written. -/
structure Pr (w : World) (n : Nat) (x y : Value) : Prop where
  c0 : w.cell? ⟨n, 0, none⟩ = some x
  c1 : w.cell? ⟨n, 1, none⟩ = some y
  f0 : w.frozen? ⟨n, 0, none⟩ = false
  f1 : w.frozen? ⟨n, 1, none⟩ = false
theorem Pr.ext {w w' : World} {n : Nat} {x y : Value} (h : Pr w n x y) (k : Ext w w') : Pr w' n x y := ⟨k.cellOf h.c0, k.cellOf h.c1, k.thawOf h.c0 h.f0, k.thawOf h.c1 h.f1⟩
theorem Pr.chg {w w' : World} {n B : Nat} {x y : Value} (h : Pr w n x y) (k : Chg B w w') (hB : n ≠ B) : Pr w' n x y := ⟨k.cellOf hB h.c0, k.cellOf hB h.c1, k.thawOf hB h.c0 h.f0, k.thawOf hB h.c1 h.f1⟩
theorem Pr.new {w : World} {x y : Value} {t : TypeId} {n : Nat} (hn : w.heap.size = n) : Pr (w.alloc (.cells #[x, y] t)) n x y := ⟨boxed 0 rfl hn, boxed 1 rfl hn, thawed 0 hn, thawed 1 hn⟩
/-- Both cells are written. -/
theorem Pr.set {w : World} {n : Nat} {x y u v : Value} (h : Pr w n x y) : Pr ((w.setCell ⟨n, 0, none⟩ u).setCell ⟨n, 1, none⟩ v) n u v :=
  ⟨set_c0 h.c0, set_c1 h.c1, by rw [World.frozen?_setCell, World.frozen?_setCell]; exact h.f0, by rw [World.frozen?_setCell, World.frozen?_setCell]; exact h.f1⟩
/-- Another pair is written. -/
theorem Pr.away {w : World} {n m : Nat} {x y u v : Value} (h : Pr w n x y) (hm : m ≠ n) : Pr ((w.setCell ⟨m, 0, none⟩ u).setCell ⟨m, 1, none⟩ v) n x y :=
  ⟨by rw [World.cell?_setCell_other _ _ _ _ (by simp), World.cell?_setCell_other _ _ _ _ (by simp)]; exact h.c0, by rw [World.cell?_setCell_other _ _ _ _ (by simp), World.cell?_setCell_other _ _ _ _ (by simp)]; exact h.c1,
   by rw [World.frozen?_setCell, World.frozen?_setCell]; exact h.f0, by rw [World.frozen?_setCell, World.frozen?_setCell]; exact h.f1⟩

/-- Three points come out. -/
def ThreePts (w : World) (e : Ending) (w' : World) : Prop := ∃ x y u v a b : Int, e = .returned (.tuple #[Pt x y, Pt u v, Pt a b]) ∧ Ext w w'

end Go.Proofs.Ythaioaaonnfabaa.Draw
