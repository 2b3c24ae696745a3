/- Contracts of chapter 1's draws of numbers: some numbers come out, and nothing that was there is written. -/
import Derived.Test.YtcjcgiagacpolaaDraw
namespace Go.Proofs.Ytcjcgiagacpolaa.Draw
open Go.ChangeShapes Go.WideShapes Go.ChangeAt Go.RowKit
open Go.Proofs.Ytcjcgiagacpolaa.Num Go.Proofs.Ytcjcgiagacpolaa.Kit
set_option linter.unusedVariables false

/-- Two numbers come out. -/
def Two (w : World) (e : Ending) (w' : World) : Prop := ∃ a b : Int, e = .returned (.tuple #[.int .i64 a, .int .i64 b]) ∧ Ext w w'

set_option maxHeartbeats 400000 in
theorem drawFloorDiv_any (a : Option Addr) (len cap : Nat) (w : World) (hb : Bytes w a len) (hl : len ≤ 100000) : Calls Try.prog 12 #[.slice a len cap] w (Two w) := by
  have HB := Lib.hid hb
  clear hb
  go_enter Try.func12, Try.ntmps12
  go_wp2_with fail
  refine (from_any a len cap _ HB.out hl).mono ?_
  rintro e w1 ⟨B, rfl, hB, hs, hx⟩
  go_wp2_with (go_at_call 27; refine (next_pos _ _ _ (by first | assumption | exact Src.alloc (by assumption) _) (by omega)).mono ?_; rintro e w2 ⟨r, rfl, r0, r1, hs2, hc⟩; (first | obtain ⟨v, hv, hor⟩ := pick2 hc hs r0 r1 | obtain ⟨v, hv, hor⟩ := pick3 hc hs r0 r1 | obtain ⟨v, hv, hor⟩ := pick4 hc hs r0 r1 | obtain ⟨v, hv, hor⟩ := pick5 hc hs r0 r1 | obtain ⟨v, hv, hor⟩ := pick6 hc hs r0 r1 | obtain ⟨v, hv, hor⟩ := pick8 hc hs r0 r1 | skip); (replace hx : Ext w w2 := by first | exact hc.ext hx hB | exact hc.ext (hx.alloc _) hB); clear hc; replace hs := hs2; clear hs2)
  all_goals
    go_ret2
    exact ⟨_, _, rfl, hx⟩

/-- A number comes out. -/
def One (w : World) (e : Ending) (w' : World) : Prop := ∃ a : Int, e = .returned (.int .i64 a) ∧ Ext w w'

set_option maxHeartbeats 400000 in
theorem drawRootOf_any (a : Option Addr) (len cap : Nat) (w : World) (hb : Bytes w a len) (hl : len ≤ 100000) : Calls Try.prog 15 #[.slice a len cap] w (One w) := by
  have HB := Lib.hid hb
  clear hb
  go_enter Try.func15, Try.ntmps15
  go_wp2_with fail
  refine (from_any a len cap _ HB.out hl).mono ?_
  rintro e w1 ⟨B, rfl, hB, hs, hx⟩
  go_wp2_with (go_at_call 27; refine (next_pos _ _ _ (by first | assumption | exact Src.alloc (by assumption) _) (by omega)).mono ?_; rintro e w2 ⟨r, rfl, r0, r1, hs2, hc⟩; (first | obtain ⟨v, hv, hor⟩ := pick2 hc hs r0 r1 | obtain ⟨v, hv, hor⟩ := pick3 hc hs r0 r1 | obtain ⟨v, hv, hor⟩ := pick4 hc hs r0 r1 | obtain ⟨v, hv, hor⟩ := pick5 hc hs r0 r1 | obtain ⟨v, hv, hor⟩ := pick6 hc hs r0 r1 | obtain ⟨v, hv, hor⟩ := pick8 hc hs r0 r1 | skip); (replace hx : Ext w w2 := by first | exact hc.ext hx hB | exact hc.ext (hx.alloc _) hB); clear hc; replace hs := hs2; clear hs2)
  all_goals
    go_ret
    exact ⟨_, rfl, hx⟩

end Go.Proofs.Ytcjcgiagacpolaa.Draw
