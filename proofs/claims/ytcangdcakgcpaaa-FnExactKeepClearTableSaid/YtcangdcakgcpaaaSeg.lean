/- Contracts of the functions on segments of chapter 2 (impl and spec): what each call returns, as a plain Lean function; nothing that was there is written. -/
import Derived.Test.YtcangdcakgcpaaaPts
import Derived.Test.YtcangdcakgcpaaaCel
namespace Go.Proofs.Ytcangdcakgcpaaa.Seg
open Go.ChangeShapes Go.WideShapes Go.ChangeAt Go.RowKit
open Go.Proofs.Ytcangdcakgcpaaa.Num Go.Proofs.Ytcangdcakgcpaaa.Kit Go.Proofs.Ytcangdcakgcpaaa.Pts
set_option linter.unusedVariables false

abbrev Sg (a b c d : Int) : Value := .agg #[.int .i64 a, .int .i64 b, .int .i64 c, .int .i64 d]

/-- Is a number a valid coordinate? -/
abbrev Co (n : Int) : Prop := -1000000 ≤ n ∧ n ≤ 1000000

/-- Is a segment valid? -/
def sgB (a b c d : Int) : Bool := ptB a b && (ptB c d && !(a == c && b == d))
theorem sgB_yes {a b c d : Int} (h : sgB a b c d = true) : (Co a ∧ Co b ∧ Co c ∧ Co d) ∧ ¬ (a = c ∧ b = d) := by
  unfold sgB at h
  simp only [Bool.and_eq_true, Bool.not_eq_true', Bool.and_eq_false_iff, beq_eq_false_iff_ne] at h
  obtain ⟨h1, h2, h3⟩ := h
  have p := ptB_yes h1; have q := ptB_yes h2
  refine ⟨⟨p.1, p.2, q.1, q.2⟩, fun h => ?_⟩
  rcases h3 with h3 | h3
  · exact h3 h.1
  · exact h3 h.2

/-- Twice the area of the triangle of a segment and a point, with its sign. -/
def crs (a b c d p q : Int) : Int := (c - a) * (q - b) - (d - b) * (p - a)

/-! ### laws -/
theorem eqPoint_same (x y : Int) (w : World) : Calls Try.prog 118 #[Pt x y, Pt x y] w fun e w' => e = .returned (.bool true) ∧ Ext w w' := by
  go_enter Try.func118, Try.ntmps118
  go_wp2
  go_ret
  exact ⟨rfl, (by repeat (first | exact Ext.refl _ | assumption | apply Ext.alloc | apply Ext.drew | (refine Ext.trans ?_ (by assumption)) | (refine Ext.setNew ?_ (by simp <;> omega) _)))⟩

end Go.Proofs.Ytcangdcakgcpaaa.Seg
