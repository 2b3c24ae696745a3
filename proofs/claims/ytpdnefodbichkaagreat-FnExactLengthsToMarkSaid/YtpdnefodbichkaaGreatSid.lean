import Derived.Test.YtpdnefodbichkaaGreatMPos
import Derived.Test.YtpdnefodbichkaaGreatMPts
namespace Go.Proofs.YtpdnefodbichkaaGreat.Trk
open Go.ChangeShapes Go.WideShapes Go.ChangeAt Go.RowKit
open Go.Proofs.YtpdnefodbichkaaGreat.Num Go.Proofs.YtpdnefodbichkaaGreat.Kit Go.Proofs.YtpdnefodbichkaaGreat.Pts Go.Proofs.YtpdnefodbichkaaGreat.Seg Go.Proofs.YtpdnefodbichkaaGreat.Crs
set_option linter.unusedVariables false
set_option linter.unusedSimpArgs false
theorem pk_Co {fs : List F3} {t : Int} (hv : trB fs = true) (hl : lastB fs t = true) : Co (pkX fs t (legOf fs t)) ∧ Co (pkY fs t (legOf fs t)) := by
  obtain ⟨⟨h2, _⟩, _⟩ := trB_yes hv
  have hk := legOf_lt t h2
  obtain ⟨⟨ca, cb, cc, cd⟩, _⟩ := leg_bounds hv hk
  obtain ⟨hx, hy⟩ := pk_between hv hl
  exact ⟨by omega, by omega⟩
end Go.Proofs.YtpdnefodbichkaaGreat.Trk
