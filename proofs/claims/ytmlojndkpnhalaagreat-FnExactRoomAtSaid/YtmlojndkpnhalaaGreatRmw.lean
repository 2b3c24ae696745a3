import Derived.Test.YtmlojndkpnhalaaGreatHul5
import Derived.Test.YtmlojndkpnhalaaGreatWnd2
import Derived.Test.YtmlojndkpnhalaaGreatOpb
namespace Go.Proofs.YtmlojndkpnhalaaGreat.Rom
open Go.ChangeShapes Go.WideShapes Go.ChangeAt Go.RowKit
open Go.Proofs.YtmlojndkpnhalaaGreat.Num Go.Proofs.YtmlojndkpnhalaaGreat.Kit Go.Proofs.YtmlojndkpnhalaaGreat.Pts Go.Proofs.YtmlojndkpnhalaaGreat.Seg Go.Proofs.YtmlojndkpnhalaaGreat.Wnd Go.Proofs.YtmlojndkpnhalaaGreat.Hul
set_option linter.unusedVariables false
set_option linter.unusedSimpArgs false
def inN (a b p q X Y : Int) : Int := wwN (sqD a b X Y) (sqD p q X Y)
def btB (i j e f : Int) : Bool := (e == 1) && ((f == 1) && opB i j)
def rbT (x y c d u v : Int) : Bool := btB (tkN (c * y - d * x)) (tkN (u * y - v * x)) (slN (c * y - d * x) (c * x + d * y)) (slN (u * y - v * x) (u * x + v * y))
def gvG (t : Bool) (o k : Int) : Int := if t = true then 0 else if o = 1 then 2 else if o = 2 then 1 else if o = 3 then 0 else if k = 0 then 0 else 3 - k
def gvR (t : Bool) (o k : Int) : Int := if t = true then 1 else if o = 1 then 3 else if o = 2 then 3 else if o = 3 then 4 else if k = 0 then 4 else 2
def rmG (x y X Y a b c d n p q u v m : Int) : Int := gvG (rbT x y c d u v) (ovN (caB a b c d n p q) (caB p q u v m a b)) (inN a b p q X Y)
def rmR (x y X Y a b c d n p q u v m : Int) : Int := gvR (rbT x y c d u v) (ovN (caB a b c d n p q) (caB p q u v m a b)) (inN a b p q X Y)
theorem wwN_three (s t : Int) : wwN s t = 0 ∨ wwN s t = 1 ∨ wwN s t = 2 := by
  unfold wwN
  split
  · exact .inr (.inl rfl)
  · split
    · exact .inr (.inr rfl)
    · exact .inl rfl
theorem inN_three (a b p q X Y : Int) : inN a b p q X Y = 0 ∨ inN a b p q X Y = 1 ∨ inN a b p q X Y = 2 := wwN_three _ _
theorem ovN_four (x y : Bool) : ovN x y = 0 ∨ ovN x y = 1 ∨ ovN x y = 2 ∨ ovN x y = 3 := by cases x <;> cases y <;> decide
end Go.Proofs.YtmlojndkpnhalaaGreat.Rom
