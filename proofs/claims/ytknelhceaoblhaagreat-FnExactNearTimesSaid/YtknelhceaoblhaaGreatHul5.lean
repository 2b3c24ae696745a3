import Derived.Test.YtknelhceaoblhaaGreatMHul2
import Derived.Test.YtknelhceaoblhaaGreatWnd4
import Derived.Test.YtknelhceaoblhaaGreatRel2
namespace Go.Proofs.YtknelhceaoblhaaGreat.Hul
open Go.ChangeShapes Go.WideShapes Go.ChangeAt Go.RowKit
open Go.Proofs.YtknelhceaoblhaaGreat.Num Go.Proofs.YtknelhceaoblhaaGreat.Kit Go.Proofs.YtknelhceaoblhaaGreat.Pts Go.Proofs.YtknelhceaoblhaaGreat.Seg Go.Proofs.YtknelhceaoblhaaGreat.Wnd
open Go.Proofs.YtknelhceaoblhaaGreat.Lth (ln2 ln2_pos length_any sqs_bd)
set_option linter.unusedVariables false
set_option linter.unusedSimpArgs false
def h2B (a b c d n p q u v m : Int) : Bool := hlB a b c d n && hlB p q u v m
theorem h2_no1 {a b c d n p q u v m : Int} (h : hlB a b c d n = false) : h2B a b c d n p q u v m = false := by unfold h2B; rw [h]; rfl
theorem h2_no2 {a b c d n p q u v m : Int} (h : hlB p q u v m = false) : h2B a b c d n p q u v m = false := by unfold h2B; rw [h, Bool.and_false]
theorem h2_yes {a b c d n p q u v m : Int} (h : hlB a b c d n = true) (g : hlB p q u v m = true) : h2B a b c d n p q u v m = true := by unfold h2B; rw [h, g]; rfl
theorem if_no {α : Type} {c : Bool} {x y : α} (h : c = false) : (if c = true then x else y) = y := by rw [h]; rfl
theorem if_yes {α : Type} {c : Bool} {x y : α} (h : c = true) : (if c = true then x else y) = x := by rw [h]; rfl
end Go.Proofs.YtknelhceaoblhaaGreat.Hul
