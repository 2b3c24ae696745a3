/- Room at marks (chapter 11): the words, of no program. -/
import Derived.Test.YtcangdcakgcpaaaHul5
import Derived.Test.YtcangdcakgcpaaaWnd2
import Derived.Test.YtcangdcakgcpaaaOpb
namespace Go.Proofs.Ytcangdcakgcpaaa.Rom
open Go.ChangeShapes Go.WideShapes Go.ChangeAt Go.RowKit
open Go.Proofs.Ytcangdcakgcpaaa.Num Go.Proofs.Ytcangdcakgcpaaa.Kit Go.Proofs.Ytcangdcakgcpaaa.Pts Go.Proofs.Ytcangdcakgcpaaa.Seg Go.Proofs.Ytcangdcakgcpaaa.Wnd Go.Proofs.Ytcangdcakgcpaaa.Hul
set_option linter.unusedVariables false
set_option linter.unusedSimpArgs false

/-- The inside boat. -/
def inN (a b p q X Y : Int) : Int := wwN (sqD a b X Y) (sqD p q X Y)
/-- Do both beat, on different tacks? -/
def btB (i j e f : Int) : Bool := (e == 1) && ((f == 1) && opB i j)
def rbT (x y c d u v : Int) : Bool := btB (tkN (c * y - d * x)) (tkN (u * y - v * x)) (slN (c * y - d * x) (c * x + d * y)) (slN (u * y - v * x) (u * x + v * y))
/-- The giver and the reason, out of what is asked: beating, the relation, the inside boat. -/
def gvG (t : Bool) (o k : Int) : Int := if t = true then 0 else if o = 1 then 2 else if o = 2 then 1 else if o = 3 then 0 else if k = 0 then 0 else 3 - k
def gvR (t : Bool) (o k : Int) : Int := if t = true then 1 else if o = 1 then 3 else if o = 2 then 3 else if o = 3 then 4 else if k = 0 then 4 else 2
def rmG (x y X Y a b c d n p q u v m : Int) : Int := gvG (rbT x y c d u v) (ovN (caB a b c d n p q) (caB p q u v m a b)) (inN a b p q X Y)
def rmR (x y X Y a b c d n p q u v m : Int) : Int := gvR (rbT x y c d u v) (ovN (caB a b c d n p q) (caB p q u v m a b)) (inN a b p q X Y)
/-- InsideBoat. -/
def ibB (X Y a b c d n p q u v m : Int) : Bool := ptB X Y && h2B a b c d n p q u v m
def ibC (X Y a b c d n p q u v m : Int) : Int := if ibB X Y a b c d n p q u v m = true then 0 else 1
def ibV (X Y a b c d n p q u v m : Int) : Int := if ibB X Y a b c d n p q u v m = true then inN a b p q X Y else 0
/-- RoomBetween. -/
def rbB (x y X Y a b c d n p q u v m : Int) : Bool := wdB x y && ibB X Y a b c d n p q u v m
def rbC (x y X Y a b c d n p q u v m : Int) : Int := if rbB x y X Y a b c d n p q u v m = true then 0 else 1
def rbG (x y X Y a b c d n p q u v m : Int) : Int := if rbB x y X Y a b c d n p q u v m = true then rmG x y X Y a b c d n p q u v m else 0
def rbR (x y X Y a b c d n p q u v m : Int) : Int := if rbB x y X Y a b c d n p q u v m = true then rmR x y X Y a b c d n p q u v m else 0

theorem wwN_three (s t : Int) : wwN s t = 0 ∨ wwN s t = 1 ∨ wwN s t = 2 := by
  unfold wwN
  split
  · exact .inr (.inl rfl)
  · split
    · exact .inr (.inr rfl)
    · exact .inl rfl
theorem inN_three (a b p q X Y : Int) : inN a b p q X Y = 0 ∨ inN a b p q X Y = 1 ∨ inN a b p q X Y = 2 := wwN_three _ _
theorem ovN_four (x y : Bool) : ovN x y = 0 ∨ ovN x y = 1 ∨ ovN x y = 2 ∨ ovN x y = 3 := by cases x <;> cases y <;> decide
theorem gv_beat {o k : Int} : gvG true o k = 0 ∧ gvR true o k = 1 := ⟨rfl, rfl⟩
theorem gv_astern {k : Int} : gvG false 1 k = 2 ∧ gvR false 1 k = 3 := ⟨rfl, rfl⟩
theorem gv_ahead {k : Int} : gvG false 2 k = 1 ∧ gvR false 2 k = 3 := ⟨rfl, rfl⟩
theorem gv_apart {k : Int} : gvG false 3 k = 0 ∧ gvR false 3 k = 4 := ⟨rfl, rfl⟩
theorem gv_none : gvG false 0 0 = 0 ∧ gvR false 0 0 = 4 := ⟨rfl, rfl⟩
theorem gv_first : gvG false 0 1 = 2 ∧ gvR false 0 1 = 2 := ⟨rfl, rfl⟩
theorem gv_second : gvG false 0 2 = 1 ∧ gvR false 0 2 = 2 := ⟨rfl, rfl⟩
theorem ib_no0 {X Y a b c d n p q u v m : Int} (h : ptB X Y = false) : ibB X Y a b c d n p q u v m = false := by unfold ibB; rw [h]; rfl
theorem ib_no1 {X Y a b c d n p q u v m : Int} (h : hlB a b c d n = false) : ibB X Y a b c d n p q u v m = false := by unfold ibB; rw [h2_no1 h, Bool.and_false]
theorem ib_no2 {X Y a b c d n p q u v m : Int} (h : hlB p q u v m = false) : ibB X Y a b c d n p q u v m = false := by unfold ibB; rw [h2_no2 h, Bool.and_false]
theorem ib_yes {X Y a b c d n p q u v m : Int} (h : ptB X Y = true) (h1 : hlB a b c d n = true) (h2 : hlB p q u v m = true) : ibB X Y a b c d n p q u v m = true := by unfold ibB; rw [h, h2_yes h1 h2]; rfl
theorem ib_all {X Y a b c d n p q u v m : Int} (h : ibB X Y a b c d n p q u v m = true) : ptB X Y = true ∧ hlB a b c d n = true ∧ hlB p q u v m = true := by
  unfold ibB h2B at h
  rw [Bool.and_eq_true, Bool.and_eq_true] at h
  exact h
theorem rb_no {x y X Y a b c d n p q u v m : Int} (h : wdB x y = false) : rbB x y X Y a b c d n p q u v m = false := by unfold rbB; rw [h]; rfl
theorem rb_ib {x y X Y a b c d n p q u v m : Int} (h : ibB X Y a b c d n p q u v m = false) : rbB x y X Y a b c d n p q u v m = false := by unfold rbB; rw [h, Bool.and_false]
theorem rb_yes {x y X Y a b c d n p q u v m : Int} (h : wdB x y = true) (g : ibB X Y a b c d n p q u v m = true) : rbB x y X Y a b c d n p q u v m = true := by unfold rbB; rw [h, g]; rfl

end Go.Proofs.Ytcangdcakgcpaaa.Rom
