/- TackAt of both. -/
import Derived.Test.YtlheppblioglpaaGreatWnd2
import Derived.Test.YtlheppblioglpaaGreatHead
namespace Go.Proofs.YtlheppblioglpaaGreat.Wnd
open Go.ChangeShapes Go.WideShapes Go.ChangeAt Go.RowKit
open Go.Proofs.YtlheppblioglpaaGreat.Num Go.Proofs.YtlheppblioglpaaGreat.Kit Go.Proofs.YtlheppblioglpaaGreat.Pts Go.Proofs.YtlheppblioglpaaGreat.Seg Go.Proofs.YtlheppblioglpaaGreat.Gcd
open Go.Proofs.YtlheppblioglpaaGreat.Trk (F3 Fxs Tr trB fx hdX hdY heX heY heC headingAt_impl headingAt_spec isTrack_spec one_on leg_bounds legOf legOf_lt trB_yes ctI ctI_zero he_no he_zero he_yes hzB)
set_option linter.unusedVariables false
set_option linter.unusedSimpArgs false

theorem hd_bd {fs : List F3} {k : Nat} (hv : trB fs = true) (hk : k + 1 < fs.length) : (-2000000 ≤ hdX fs k ∧ hdX fs k ≤ 2000000) ∧ -2000000 ≤ hdY fs k ∧ hdY fs k ≤ 2000000 := by
  obtain ⟨⟨a, b, c, d⟩, _, _⟩ := leg_bounds hv hk
  unfold hdX hdY; omega
theorem heC_bad {fs : List F3} {t : Int} (h : trB fs = false) : heC fs t = 1 := by
  have e : ctI fs t = 1 := by unfold ctI; rw [h]; rfl
  rw [(he_no (by rw [e]; decide)).1, e]
theorem he_ok {fs : List F3} {t : Int} (h : heC fs t = 0) : trB fs = true ∧ ((-2000000 ≤ heX fs t ∧ heX fs t ≤ 2000000) ∧ -2000000 ≤ heY fs t ∧ heY fs t ≤ 2000000) ∧ ¬ (heX fs t = 0 ∧ heY fs t = 0) := by
  by_cases hc : ctI fs t = 0
  · obtain ⟨hv, _⟩ := ctI_zero hc
    cases hz : hzB fs t
    · obtain ⟨_, e1, e2⟩ := he_yes hc hz
      rw [e1, e2]
      refine ⟨hv, hd_bd hv (legOf_lt t (trB_yes hv).1.1), ?_⟩
      rintro ⟨h1, h2⟩
      unfold hzB at hz; rw [h1, h2] at hz; cases hz
    · rw [(he_zero hc hz).1] at h; cases h
  · rw [(he_no hc).1] at h; exact absurd h hc
/-- The answers of TackAt. -/
def taC (x y : Int) (fs : List F3) (t : Int) : Int := if wdB x y = true then heC fs t else 1
def taV (x y : Int) (fs : List F3) (t : Int) : Int := if taC x y fs t = 0 then tkN (heX fs t * y - heY fs t * x) else 0

end Go.Proofs.YtlheppblioglpaaGreat.Wnd
