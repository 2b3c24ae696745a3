/- Is a number a distance of points, is it a length of hulls? (impl: chapters 2 and 7.) -/
import Derived.Test.YtknelhceaoblhaaPts
namespace Go.Proofs.Ytknelhceaoblhaa.Pts
open Go.ChangeShapes Go.WideShapes Go.ChangeAt Go.RowKit
open Go.Proofs.Ytknelhceaoblhaa.Num Go.Proofs.Ytknelhceaoblhaa.Kit
set_option linter.unusedVariables false

theorem isHullLength_any (n : Int) (w : World) : Calls Try.prog 36 #[.int .i64 n] w fun e w' => e = .returned (.bool (inB n 1 1000)) ∧ w = w' := by
  by_cases h1 : 1 ≤ n
  · by_cases h2 : n ≤ 1000
    · have H := Lib.hid (inB_yes h1 h2)
      go_enter Try.func36, Try.ntmps36
      go_wp2
      go_ret
      exact ⟨ret_bool H.out, rfl⟩
    · have H := Lib.hid (inB_no (n := n) (lo := 1) (hi := 1000) (fun h => h2 h.2))
      go_enter Try.func36, Try.ntmps36
      go_wp2
      go_ret
      exact ⟨ret_bool H.out, rfl⟩
  · have H := Lib.hid (inB_no (n := n) (lo := 1) (hi := 1000) (fun h => h1 h.1))
    go_enter Try.func36, Try.ntmps36
    go_wp2
    go_ret
    exact ⟨ret_bool H.out, rfl⟩

end Go.Proofs.Ytknelhceaoblhaa.Pts
