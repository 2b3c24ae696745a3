/- Contracts of the search for the leg at a time: sort.Search at our closure, lastAtMost, legAt (impl), l03Leg (spec), LegAt of both. -/
import Derived.Test.YtccggjhmnbebbaaBase
import Derived.Deep.LoopGhost
namespace Go.Proofs.Ytccggjhmnbebbaa.Trk
open Go.ChangeShapes Go.WideShapes Go.ChangeAt Go.RowKit
open Go.Proofs.Ytccggjhmnbebbaa.Num Go.Proofs.Ytccggjhmnbebbaa.Kit Go.Proofs.Ytccggjhmnbebbaa.Pts
set_option linter.unusedVariables false
set_option linter.unusedSimpArgs false

/-- The code of a track that has to last at a time. -/
def ctI (fs : List F3) (t : Int) : Int := if trB fs = true then (if lastB fs t = true then 0 else 2) else 1
theorem ctI_bad {fs : List F3} {t : Int} (h : trB fs = false) : ctI fs t = 1 := by unfold ctI; rw [h]; simp
theorem ctI_out {fs : List F3} {t : Int} (h : trB fs = true) (g : lastB fs t = false) : ctI fs t = 2 := by unfold ctI; rw [h, g]; simp
theorem ctI_in {fs : List F3} {t : Int} (h : trB fs = true) (g : lastB fs t = true) : ctI fs t = 0 := by unfold ctI; rw [h, g]; simp

theorem legCount_any (a : Option Addr) (cap n : Nat) (w : World) (h1 : 1 ≤ n) (hm : n ≤ 1000000) : Calls Try.prog 58 #[Tr (.slice a n cap)] w fun e w' => e = .returned (.int .i64 ((n - 1 : Nat) : Int)) ∧ Ext w w' := by
  have E : ((n - 1 : Nat) : Int) = (n : Int) - 1 := by omega
  have T0 : IntKind.i64.wrap ((n : Int) - 1) = (n : Int) - 1 := wrap_pred h1 (by unfold maxLen; omega)
  go_enter Try.func58, Try.ntmps58
  go_wp2
  go_ret
  exact ⟨ret_int E, (by repeat (first | exact Ext.refl _ | assumption | apply Ext.alloc | apply Ext.drew | (refine Ext.trans ?_ (by assumption)) | (refine Ext.setNew ?_ (by simp <;> omega) _)))⟩

abbrev Ptr (k : Nat) : Value := .pointer (some ⟨k, 0, none⟩)

end Go.Proofs.Ytccggjhmnbebbaa.Trk
