import Derived.Test.YtmlojndkpnhalaaGreatMHul2
import Derived.Test.YtmlojndkpnhalaaGreatWnd4
import Derived.Test.YtmlojndkpnhalaaGreatMRel
namespace Go.Proofs.YtmlojndkpnhalaaGreat.Hul
open Go.ChangeShapes Go.WideShapes Go.ChangeAt Go.RowKit
open Go.Proofs.YtmlojndkpnhalaaGreat.Num Go.Proofs.YtmlojndkpnhalaaGreat.Kit Go.Proofs.YtmlojndkpnhalaaGreat.Pts Go.Proofs.YtmlojndkpnhalaaGreat.Seg Go.Proofs.YtmlojndkpnhalaaGreat.Wnd
open Go.Proofs.YtmlojndkpnhalaaGreat.Lth (ln2 ln2_pos length_any sqs_bd)
set_option linter.unusedVariables false
set_option linter.unusedSimpArgs false
def h2B (a b c d n p q u v m : Int) : Bool := hlB a b c d n && hlB p q u v m
def wwN (s t : Int) : Int := if s < t then 1 else if t < s then 2 else 0
def wwB (x y a b c d n p q u v m : Int) : Bool := wdB x y && h2B a b c d n p q u v m
def wwC (x y a b c d n p q u v m : Int) : Int := if wwB x y a b c d n p q u v m = true then 0 else 1
theorem h2_no1 {a b c d n p q u v m : Int} (h : hlB a b c d n = false) : h2B a b c d n p q u v m = false := by unfold h2B; rw [h]; rfl
theorem h2_no2 {a b c d n p q u v m : Int} (h : hlB p q u v m = false) : h2B a b c d n p q u v m = false := by unfold h2B; rw [h, Bool.and_false]
theorem h2_yes {a b c d n p q u v m : Int} (h : hlB a b c d n = true) (g : hlB p q u v m = true) : h2B a b c d n p q u v m = true := by unfold h2B; rw [h, g]; rfl
theorem if_no {α : Type} {c : Bool} {x y : α} (h : c = false) : (if c = true then x else y) = y := by rw [h]; rfl
theorem if_yes {α : Type} {c : Bool} {x y : α} (h : c = true) : (if c = true then x else y) = x := by rw [h]; rfl
end Go.Proofs.YtmlojndkpnhalaaGreat.Hul
