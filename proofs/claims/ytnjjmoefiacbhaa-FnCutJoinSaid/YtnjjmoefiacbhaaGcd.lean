import Derived.Test.YtnjjmoefiacbhaaSeg
import Derived.Deep.LoopGhost
import Derived.Deep.QuietTactic
import Derived.BigQuiet
import Derived.RegionTactic
import Derived.BigRegion
namespace Go.Proofs.Ytnjjmoefiacbhaa.Gcd
open Go.ChangeShapes Go.WideShapes Go.ChangeAt Go.RowKit
open Go.Proofs.Ytnjjmoefiacbhaa.Num Go.Proofs.Ytnjjmoefiacbhaa.Kit Go.Proofs.Ytnjjmoefiacbhaa.Pts Go.Proofs.Ytnjjmoefiacbhaa.Seg
set_option linter.unusedVariables false
set_option linter.unusedSimpArgs false
def gc (a b : Int) : Int := (Nat.gcd a.toNat b.toNat : Nat)
def RelG (w : World) (g M : Int) (s t : Value) (wr : World) : Prop := (∃ a b : Int, 0 ≤ a ∧ a ≤ M ∧ 0 ≤ b ∧ b ≤ M ∧ gc a b = g ∧ s = .int .i64 a ∧ t = .int .i64 b) ∧ Ext w wr
def ab (n : Int) : Int := if n < 0 then -n else n
theorem absolute_any (n : Int) (w : World) (h1 : -1000000000000000000 ≤ n) (h2 : n ≤ 1000000000000000000) :
    Calls Try.prog 69 #[.int .i64 n] w fun e w' => e = .returned (.int .i64 (ab n)) ∧ w = w' := by
  by_cases h : n < 0
  · have H := Lib.hid (show ab n = -n from if_pos h)
    go_enter Try.func69, Try.ntmps69
    go_wp2
    go_ret
    exact ⟨ret_int H.out, rfl⟩
  · have H := Lib.hid (show ab n = n from if_neg h)
    go_enter Try.func69, Try.ntmps69
    go_wp2
    go_ret
    exact ⟨ret_int H.out, rfl⟩
end Go.Proofs.Ytnjjmoefiacbhaa.Gcd
