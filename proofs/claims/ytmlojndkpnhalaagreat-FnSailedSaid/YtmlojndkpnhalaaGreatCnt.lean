import Derived.Test.YtmlojndkpnhalaaGreatItr2
import Derived.Test.YtmlojndkpnhalaaGreatSpc
namespace Go.Proofs.YtmlojndkpnhalaaGreat.Rwk
open Go.ChangeShapes Go.WideShapes Go.ChangeAt Go.RowKit
open Go.Proofs.YtmlojndkpnhalaaGreat.Num Go.Proofs.YtmlojndkpnhalaaGreat.Kit Go.Proofs.YtmlojndkpnhalaaGreat.Pts Go.Proofs.YtmlojndkpnhalaaGreat.Seg Go.Proofs.YtmlojndkpnhalaaGreat.Gcd Go.Proofs.YtmlojndkpnhalaaGreat.Crs Go.Proofs.YtmlojndkpnhalaaGreat.Trk
set_option linter.unusedVariables false
set_option linter.unusedSimpArgs false
def vCr (fs : List F3) (a b c d : Int) : Bool := trB fs && sgB a b c d
theorem take_cx (cs : List C5) (k : Nat) (h : k < cs.length) : cs.take (k + 1) = cs.take k ++ [cx cs k] := by
  rw [List.take_succ_eq_append_getElem h]
  unfold cx
  rw [List.getD_eq_getElem?_getD, List.getElem?_eq_getElem h]; rfl
end Go.Proofs.YtmlojndkpnhalaaGreat.Rwk
