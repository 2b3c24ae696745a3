/- The contract of DrawSpeedOf. -/
import Derived.Test.YtlheppblioglpaaDrawN
namespace Go.Proofs.Ytlheppblioglpaa.Trk
open Go.ChangeShapes Go.WideShapes Go.ChangeAt Go.RowKit
open Go.Proofs.Ytlheppblioglpaa.Num Go.Proofs.Ytlheppblioglpaa.Kit Go.Proofs.Ytlheppblioglpaa.Pts Go.Proofs.Ytlheppblioglpaa.Draw
set_option linter.unusedVariables false
set_option linter.unusedSimpArgs false

/-- While a draw gathers its results: a cell of block R may be written, box T holds the track. -/
def SD (w : World) (R T g n : Nat) (V : Value) (w' : World) : Prop := Res w R 1 w' ∧ T ≠ R ∧ g ≠ R ∧ w'.cell? ⟨T, 0, none⟩ = some V ∧ IntRow w' g n
theorem SD.chg {w : World} {R T g n B : Nat} {V : Value} {a b : World} (h : SD w R T g n V a) (k : Chg B a b) (h1 : R ≠ B) (h2 : T ≠ B) (h3 : g ≠ B) (h4 : w.heap.size ≤ B) : SD w R T g n V b :=
  ⟨⟨k.ext h.1.1 h4, h.1.2.1, fun i hi => by obtain ⟨v, c, f⟩ := h.1.2.2 i hi; exact ⟨v, k.cellOf h1 c, k.thawOf h1 c f⟩⟩, h.2.1, h.2.2.1, k.cellOf h2 h.2.2.2.1, h.2.2.2.2.chg k h3⟩
theorem SD.ext {w : World} {R T g n : Nat} {V : Value} {a b : World} (h : SD w R T g n V a) (k : Ext a b) : SD w R T g n V b :=
  ⟨h.1.ext k, h.2.1, h.2.2.1, k.cellOf h.2.2.2.1, h.2.2.2.2.ext k⟩
theorem SD.set {w : World} {R T g n : Nat} {V : Value} {a : World} (h : SD w R T g n V a) (u : Value) : SD w R T g n V (a.setCell ⟨R, 0, none⟩ u) :=
  ⟨h.1.set 0 u, h.2.1, h.2.2.1, by rw [World.cell?_setCell_other _ _ _ _ (fun e => h.2.1 (by simpa using congrArg Addr.block e.symm))]; exact h.2.2.2.1, h.2.2.2.2.chg ((Chg.refl _ _).setCell 0 u) h.2.2.1⟩
theorem SD.one {w : World} {R T g n : Nat} {V : Value} {a : World} (h : SD w R T g n V a) : ∃ v, a.cell? ⟨R, 0, none⟩ = some v ∧ a.frozen? ⟨R, 0, none⟩ = false := h.1.2.2 0 (by omega)

/-- A track and a number. -/
def TrN (w : World) (e : Ending) (w' : World) : Prop :=
  ∃ (g cap n : Nat) (k : Int), e = .returned (.tuple #[Tr (.slice (some ⟨g, 0, none⟩) n cap), .int .i64 k]) ∧ n ≤ 41 ∧ n ≤ cap ∧ IntRow w' g n ∧ Ext w w'

end Go.Proofs.Ytlheppblioglpaa.Trk
