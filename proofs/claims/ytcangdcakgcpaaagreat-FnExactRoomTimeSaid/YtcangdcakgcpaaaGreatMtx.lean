import Derived.Test.YtcangdcakgcpaaaGreatMMks
import Derived.IntWalk
import Derived.PlainAid
namespace Go.Proofs.YtcangdcakgcpaaaGreat.Crs
open Go.ChangeShapes Go.WideShapes Go.ChangeAt Go.RowKit
open Go.Proofs.YtcangdcakgcpaaaGreat.Num Go.Proofs.YtcangdcakgcpaaaGreat.Kit Go.Proofs.YtcangdcakgcpaaaGreat.Pts Go.Proofs.YtcangdcakgcpaaaGreat.Seg
set_option linter.unusedVariables false
set_option linter.unusedSimpArgs false
def RoomM (w : World) (g n : Nat) : Prop := ∀ j, j < n * 5 → (∃ v, w.cell? ⟨g, j, none⟩ = some v) ∧ w.frozen? ⟨g, j, none⟩ = false
theorem RoomM.ext {w w' : World} {g n : Nat} (h : RoomM w g n) (k : Ext w w') : RoomM w' g n := fun j hj => by
  obtain ⟨⟨v, c⟩, f⟩ := h j hj
  exact ⟨⟨v, k.cellOf c⟩, k.thawOf c f⟩
theorem RoomM.put {w : World} {g n o : Nat} (h : RoomM w g n) (ho : o + 5 ≤ n * 5) (a b c d e : Value) : RoomM (put5 w g o a b c d e) g n := by
  intro j hj
  refine ⟨?_, by rw [put5_frozen]; exact (h j hj).2⟩
  by_cases q : j < o ∨ o + 5 ≤ j
  · rw [put5_other _ _ _ _ _ _ _ _ _ q]; exact (h j hj).1
  · have P := put5_at (w := w) (B := g) (o := o) (fun r hr => (h (o + r) (by omega)).1) a b c d e
    rcases (show j = o ∨ j = o + 1 ∨ j = o + 2 ∨ j = o + 3 ∨ j = o + 4 by omega) with rfl | rfl | rfl | rfl | rfl
    · exact ⟨_, P.1⟩
    · exact ⟨_, P.2.1⟩
    · exact ⟨_, P.2.2.1⟩
    · exact ⟨_, P.2.2.2.1⟩
    · exact ⟨_, P.2.2.2.2⟩
theorem Chg.put5 {w wr : World} {g o : Nat} (h : Chg g w wr) (a b c d e : Value) : Chg g w (Crs.put5 wr g o a b c d e) := ((((h.setCell _ _).setCell _ _).setCell _ _).setCell _ _).setCell _ _
end Go.Proofs.YtcangdcakgcpaaaGreat.Crs
