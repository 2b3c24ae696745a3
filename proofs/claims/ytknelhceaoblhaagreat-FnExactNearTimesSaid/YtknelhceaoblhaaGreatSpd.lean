import Derived.Test.YtknelhceaoblhaaGreatWay
import Derived.Test.YtknelhceaoblhaaGreatMRoot
namespace Go.Proofs.YtknelhceaoblhaaGreat.Trk
open Go.ChangeShapes Go.WideShapes Go.ChangeAt Go.RowKit
open Go.Proofs.YtknelhceaoblhaaGreat.Num Go.Proofs.YtknelhceaoblhaaGreat.Kit Go.Proofs.YtknelhceaoblhaaGreat.Pts Go.Proofs.YtknelhceaoblhaaGreat.Seg Go.Proofs.YtknelhceaoblhaaGreat.Rt Go.Proofs.YtknelhceaoblhaaGreat.Root
set_option linter.unusedVariables false
set_option linter.unusedSimpArgs false
theorem leg_bounds {fs : List F3} (hv : trB fs = true) {k : Nat} (hk : k + 1 < fs.length) :
    (Co (fx fs k).x ∧ Co (fx fs k).y ∧ Co (fx fs (k + 1)).x ∧ Co (fx fs (k + 1)).y) ∧ 1 ≤ durI fs k ∧ durI fs k ≤ 1000000000 := by
  obtain ⟨_, hok⟩ := trB_yes hv
  obtain ⟨t0, p0⟩ := fxB_yes (okB_fx (hok k (by omega)))
  obtain ⟨t1, p1⟩ := fxB_yes (okB_fx (hok (k + 1) hk))
  have := okB_lt (hok (k + 1) hk)
  exact ⟨⟨p0.1, p0.2, p1.1, p1.2⟩, by unfold durI; omega, by unfold durI; omega⟩
def hlB (fs : List F3) (l : Int) : Bool := decide (0 ≤ l ∧ l + 1 < (fs.length : Int))
end Go.Proofs.YtknelhceaoblhaaGreat.Trk
