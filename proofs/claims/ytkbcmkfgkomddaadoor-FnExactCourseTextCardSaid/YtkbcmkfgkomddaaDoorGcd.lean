import Derived.Test.YtkbcmkfgkomddaaDoorSeg
import Derived.Deep.LoopGhost
import Derived.Deep.QuietTactic
import Derived.BigQuiet
import Derived.RegionTactic
import Derived.BigRegion
namespace Go.Proofs.YtkbcmkfgkomddaaDoor.Gcd
open Go.ChangeShapes Go.WideShapes Go.ChangeAt Go.RowKit
open Go.Proofs.YtkbcmkfgkomddaaDoor.Num Go.Proofs.YtkbcmkfgkomddaaDoor.Kit Go.Proofs.YtkbcmkfgkomddaaDoor.Pts Go.Proofs.YtkbcmkfgkomddaaDoor.Seg
set_option linter.unusedVariables false
set_option linter.unusedSimpArgs false
def gc (a b : Int) : Int := (Nat.gcd a.toNat b.toNat : Nat)
def ab (n : Int) : Int := if n < 0 then -n else n
theorem absolute_any (n : Int) (w : World) (h1 : -1000000000000000000 ≤ n) (h2 : n ≤ 1000000000000000000) :
    Calls Tryd.prog 93 #[.int .i64 n] w fun e w' => e = .returned (.int .i64 (ab n)) ∧ w = w' := by
  by_cases h : n < 0
  · have H := Lib.hid (show ab n = -n from if_pos h)
    go_enter Tryd.func93, Tryd.ntmps93
    go_wp2
    go_ret
    exact ⟨ret_int H.out, rfl⟩
  · have H := Lib.hid (show ab n = n from if_neg h)
    go_enter Tryd.func93, Tryd.ntmps93
    go_wp2
    go_ret
    exact ⟨ret_int H.out, rfl⟩
end Go.Proofs.YtkbcmkfgkomddaaDoor.Gcd
