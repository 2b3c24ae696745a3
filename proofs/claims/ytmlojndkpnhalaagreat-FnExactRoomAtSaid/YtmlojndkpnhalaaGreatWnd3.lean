import Derived.Test.YtmlojndkpnhalaaGreatWnd2
import Derived.Test.YtmlojndkpnhalaaGreatMSpd
namespace Go.Proofs.YtmlojndkpnhalaaGreat.Wnd
open Go.ChangeShapes Go.WideShapes Go.ChangeAt Go.RowKit
open Go.Proofs.YtmlojndkpnhalaaGreat.Num Go.Proofs.YtmlojndkpnhalaaGreat.Kit Go.Proofs.YtmlojndkpnhalaaGreat.Pts Go.Proofs.YtmlojndkpnhalaaGreat.Seg Go.Proofs.YtmlojndkpnhalaaGreat.Gcd
open Go.Proofs.YtmlojndkpnhalaaGreat.Trk (F3 Fxs Tr trB fx hdX hdY heX heY heC headingAt_impl headingAt_spec isTrack_spec leg_bounds legOf legOf_lt trB_yes ctI ctI_zero he_no he_zero he_yes hzB)
set_option linter.unusedVariables false
set_option linter.unusedSimpArgs false
theorem hd_bd {fs : List F3} {k : Nat} (hv : trB fs = true) (hk : k + 1 < fs.length) : (-2000000 ≤ hdX fs k ∧ hdX fs k ≤ 2000000) ∧ -2000000 ≤ hdY fs k ∧ hdY fs k ≤ 2000000 := by
  obtain ⟨⟨a, b, c, d⟩, _, _⟩ := leg_bounds hv hk
  unfold hdX hdY; omega
end Go.Proofs.YtmlojndkpnhalaaGreat.Wnd
