/- Contracts of SideAt (impl, spec). -/
import Derived.Test.YteljjmellbgnlaaGreatMPos
import Derived.Test.YteljjmellbgnlaaGreatMPts
namespace Go.Proofs.YteljjmellbgnlaaGreat.Trk
open Go.ChangeShapes Go.WideShapes Go.ChangeAt Go.RowKit
open Go.Proofs.YteljjmellbgnlaaGreat.Num Go.Proofs.YteljjmellbgnlaaGreat.Kit Go.Proofs.YteljjmellbgnlaaGreat.Pts Go.Proofs.YteljjmellbgnlaaGreat.Seg Go.Proofs.YteljjmellbgnlaaGreat.Crs
set_option linter.unusedVariables false
set_option linter.unusedSimpArgs false

/-- What SideAt answers: the side and the code. -/
def siC (fs : List F3) (a b c d t : Int) : Int := if (trB fs && sgB a b c d) = true then (if lastB fs t = true then 0 else 2) else 1
def siQ (fs : List F3) (a b c d t : Int) : Int := if siC fs a b c d t = 0 then trn a b c d (pkX fs t (legOf fs t)) (pkY fs t (legOf fs t)) else 0
theorem siC_one {fs : List F3} {a b c d t : Int} (h : (trB fs && sgB a b c d) = false) : siC fs a b c d t = 1 := if_neg (by simp only [h]; decide)
theorem siC_two {fs : List F3} {a b c d t : Int} (h1 : trB fs = true) (h2 : sgB a b c d = true) (h : lastB fs t = false) : siC fs a b c d t = 2 := (if_pos (by rw [h1, h2]; rfl)).trans (if_neg (by simp only [h]; decide))
theorem siC_none {fs : List F3} {a b c d t : Int} (h1 : trB fs = true) (h2 : sgB a b c d = true) (h : lastB fs t = true) : siC fs a b c d t = 0 := (if_pos (by rw [h1, h2]; rfl)).trans (if_pos h)
theorem siQ_no {fs : List F3} {a b c d t : Int} (h : siC fs a b c d t = 1 ∨ siC fs a b c d t = 2) : siQ fs a b c d t = 0 := if_neg (by omega)
theorem siQ_yes {fs : List F3} {a b c d t : Int} (h : siC fs a b c d t = 0) : siQ fs a b c d t = trn a b c d (pkX fs t (legOf fs t)) (pkY fs t (legOf fs t)) := if_pos h

theorem pk_Co {fs : List F3} {t : Int} (hv : trB fs = true) (hl : lastB fs t = true) : Co (pkX fs t (legOf fs t)) ∧ Co (pkY fs t (legOf fs t)) := by
  obtain ⟨⟨h2, _⟩, _⟩ := trB_yes hv
  have hk := legOf_lt t h2
  obtain ⟨⟨ca, cb, cc, cd⟩, _⟩ := leg_bounds hv hk
  obtain ⟨hx, hy⟩ := pk_between hv hl
  exact ⟨by omega, by omega⟩

end Go.Proofs.YteljjmellbgnlaaGreat.Trk
