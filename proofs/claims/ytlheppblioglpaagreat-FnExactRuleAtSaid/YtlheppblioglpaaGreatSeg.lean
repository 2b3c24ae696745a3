/- Contracts of the functions on segments of chapter 2 (impl and spec): what each call returns, as a plain Lean function; nothing that was there is written. -/
import Derived.Test.YtlheppblioglpaaGreatPts
import Derived.Test.YtlheppblioglpaaGreatCel
namespace Go.Proofs.YtlheppblioglpaaGreat.Seg
open Go.ChangeShapes Go.WideShapes Go.ChangeAt Go.RowKit
open Go.Proofs.YtlheppblioglpaaGreat.Num Go.Proofs.YtlheppblioglpaaGreat.Kit Go.Proofs.YtlheppblioglpaaGreat.Pts
set_option linter.unusedVariables false

abbrev Sg (a b c d : Int) : Value := .agg #[.int .i64 a, .int .i64 b, .int .i64 c, .int .i64 d]

/-- Is a number a valid coordinate? -/
abbrev Co (n : Int) : Prop := -1000000 ≤ n ∧ n ≤ 1000000

/-- Is a segment valid? -/
def sgB (a b c d : Int) : Bool := ptB a b && (ptB c d && !(a == c && b == d))
theorem sgB_yes {a b c d : Int} (h : sgB a b c d = true) : (Co a ∧ Co b ∧ Co c ∧ Co d) ∧ ¬ (a = c ∧ b = d) := by
  unfold sgB at h
  simp only [Bool.and_eq_true, Bool.not_eq_true', Bool.and_eq_false_iff, beq_eq_false_iff_ne] at h
  obtain ⟨h1, h2, h3⟩ := h
  have p := ptB_yes h1; have q := ptB_yes h2
  refine ⟨⟨p.1, p.2, q.1, q.2⟩, fun h => ?_⟩
  rcases h3 with h3 | h3
  · exact h3 h.1
  · exact h3 h.2

theorem vector_any (a b c d : Int) (w : World) (ha : Co a) (hb : Co b) (hc : Co c) (hd : Co d) :
    Calls Tryz.prog 80 #[Sg a b c d] w fun e w' => e = .returned (Pt (c - a) (d - b)) ∧ Ext w w' := by
  go_enter Tryz.func80, Tryz.ntmps80
  go_wp2_with fail
  refine (vectorTo_any _ _ _ _ _ ha hb hc hd).mono ?_
  rintro e w1 ⟨rfl, hx⟩
  have B := Lib.hid ((Box.new2 (w := w.alloc (.cells #[.int .i64 a, .int .i64 b, .int .i64 c, .int .i64 d] 99)) (n := w.heap.size + 1) (x := .int .i64 0) (y := .int .i64 0) (t := 35) (by simp)).ext hx)
  obtain ⟨⟨c0, c1⟩, f0, f1⟩ := B.out.two
  go_wp2
  obtain ⟨⟨g0, g1⟩, _, _⟩ := (B.out.set2 (u := .int .i64 (c - a)) (v := .int .i64 (d - b))).two
  exact bodyPost_ret (v := Pt (c - a) (d - b)) (by simp [results, Tryz.results80, go_sem, g0, g1]) rfl ⟨rfl, (by repeat (first | exact Ext.refl _ | assumption | apply Ext.alloc | apply Ext.drew | (refine Ext.trans ?_ (by assumption)) | (refine Ext.setNew ?_ (by simp <;> omega) _)))⟩

/-- Twice the area of the triangle of a segment and a point, with its sign. -/
def crs (a b c d p q : Int) : Int := (c - a) * (q - b) - (d - b) * (p - a)

/-! ### laws -/
end Go.Proofs.YtlheppblioglpaaGreat.Seg
