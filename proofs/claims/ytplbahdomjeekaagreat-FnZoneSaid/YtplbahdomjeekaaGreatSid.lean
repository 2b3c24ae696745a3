import Derived.Test.YtplbahdomjeekaaGreatMPos
import Derived.Test.YtplbahdomjeekaaGreatMPts
namespace Go.Proofs.YtplbahdomjeekaaGreat.Trk
open Go.ChangeShapes Go.WideShapes Go.ChangeAt Go.RowKit
open Go.Proofs.YtplbahdomjeekaaGreat.Num Go.Proofs.YtplbahdomjeekaaGreat.Kit Go.Proofs.YtplbahdomjeekaaGreat.Pts Go.Proofs.YtplbahdomjeekaaGreat.Seg Go.Proofs.YtplbahdomjeekaaGreat.Crs
set_option linter.unusedVariables false
set_option linter.unusedSimpArgs false
theorem pk_Co {fs : List F3} {t : Int} (hv : trB fs = true) (hl : lastB fs t = true) : Co (pkX fs t (legOf fs t)) ∧ Co (pkY fs t (legOf fs t)) := by
  obtain ⟨⟨h2, _⟩, _⟩ := trB_yes hv
  have hk := legOf_lt t h2
  obtain ⟨⟨ca, cb, cc, cd⟩, _⟩ := leg_bounds hv hk
  obtain ⟨hx, hy⟩ := pk_between hv hl
  exact ⟨by omega, by omega⟩
end Go.Proofs.YtplbahdomjeekaaGreat.Trk
