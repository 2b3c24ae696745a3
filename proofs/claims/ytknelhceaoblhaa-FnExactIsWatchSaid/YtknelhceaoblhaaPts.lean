/- Contracts of the functions on points of chapter 1 (impl and spec): what each call returns, as a plain Lean function; nothing that was there is written. -/
import Derived.Test.YtknelhceaoblhaaNum
import Derived.Test.YtknelhceaoblhaaKit
import Derived.Deep.RegionHeld3
namespace Go.Proofs.Ytknelhceaoblhaa.Pts
open Go.ChangeShapes Go.WideShapes Go.ChangeAt Go.RowKit
open Go.Proofs.Ytknelhceaoblhaa.Num Go.Proofs.Ytknelhceaoblhaa.Kit
set_option linter.unusedVariables false

abbrev Pt (x y : Int) : Value := .agg #[.int .i64 x, .int .i64 y]

/-- Is a coordinate valid? -/
def coB (n : Int) : Bool := inB n (-1000000) 1000000
/-- Is a point valid? -/
def ptB (x y : Int) : Bool := coB x && coB y
theorem ptB_yes {x y : Int} (h : ptB x y = true) : (-1000000 ≤ x ∧ x ≤ 1000000) ∧ -1000000 ≤ y ∧ y ≤ 1000000 := by
  unfold ptB coB at h; rw [Bool.and_eq_true] at h; exact ⟨of_inB h.1, of_inB h.2⟩

theorem isCoord_any (n : Int) (w : World) : Calls Try.prog 53 #[.int .i64 n] w fun e w' => e = .returned (.bool (coB n)) ∧ w = w' := by
  by_cases h1 : -1000000 ≤ n
  · by_cases h2 : n ≤ 1000000
    · have H := Lib.hid (show coB n = true from inB_yes h1 h2)
      go_enter Try.func53, Try.ntmps53
      go_wp2
      go_ret
      exact ⟨ret_bool H.out, rfl⟩
    · have H := Lib.hid (show coB n = false from inB_no (fun h => h2 h.2))
      go_enter Try.func53, Try.ntmps53
      go_wp2
      go_ret
      exact ⟨ret_bool H.out, rfl⟩
  · have H := Lib.hid (show coB n = false from inB_no (fun h => h1 h.1))
    go_enter Try.func53, Try.ntmps53
    go_wp2
    go_ret
    exact ⟨ret_bool H.out, rfl⟩

theorem isValid_any (x y : Int) (w : World) : Calls Try.prog 52 #[Pt x y] w fun e w' => e = .returned (.bool (ptB x y)) ∧ Ext w w' := by
  cases hx : coB x
  · have H := Lib.hid (show ptB x y = false by unfold ptB; rw [hx]; rfl)
    go_enter Try.func52, Try.ntmps52
    go_wp2_with (go_at_call 53; refine (isCoord_any _ _).mono ?_; rintro e w' ⟨rfl, rfl⟩)
    go_ret
    exact ⟨ret_bool H.out, (by repeat (first | exact Ext.refl _ | assumption | apply Ext.alloc | apply Ext.drew | (refine Ext.trans ?_ (by assumption)) | (refine Ext.setNew ?_ (by simp <;> omega) _)))⟩
  · have H := Lib.hid (show ptB x y = coB y by unfold ptB; rw [hx]; rfl)
    go_enter Try.func52, Try.ntmps52
    go_wp2_with (go_at_call 53; refine (isCoord_any _ _).mono ?_; rintro e w' ⟨rfl, rfl⟩)
    go_ret
    exact ⟨ret_bool H.out, (by repeat (first | exact Ext.refl _ | assumption | apply Ext.alloc | apply Ext.drew | (refine Ext.trans ?_ (by assumption)) | (refine Ext.setNew ?_ (by simp <;> omega) _)))⟩
theorem isPoint_spec (x y : Int) (w : World) : Calls Try.prog 38 #[Pt x y] w fun e w' => e = .returned (.bool (ptB x y)) ∧ Ext w w' := by
  cases hx : inB x (-1000000) 1000000
  · have H := Lib.hid (show ptB x y = false by unfold ptB coB; rw [hx]; rfl)
    go_enter Try.func38, Try.ntmps38
    go_wp2_with (go_at_call 24; refine (in_any _ _ _ _).mono ?_; rintro e w' ⟨rfl, rfl⟩)
    go_ret
    exact ⟨ret_bool H.out, (by repeat (first | exact Ext.refl _ | assumption | apply Ext.alloc | apply Ext.drew | (refine Ext.trans ?_ (by assumption)) | (refine Ext.setNew ?_ (by simp <;> omega) _)))⟩
  · have H := Lib.hid (show ptB x y = inB y (-1000000) 1000000 by unfold ptB coB; rw [hx]; rfl)
    go_enter Try.func38, Try.ntmps38
    go_wp2_with (go_at_call 24; refine (in_any _ _ _ _).mono ?_; rintro e w' ⟨rfl, rfl⟩)
    go_ret
    exact ⟨ret_bool H.out, (by repeat (first | exact Ext.refl _ | assumption | apply Ext.alloc | apply Ext.drew | (refine Ext.trans ?_ (by assumption)) | (refine Ext.setNew ?_ (by simp <;> omega) _)))⟩

theorem mul_bd {x y : Int} (A B : Int) (hx : -A ≤ x ∧ x ≤ A) (hy : -B ≤ y ∧ y ≤ B) : -(A * B) ≤ x * y ∧ x * y ≤ A * B := by
  have hA : 0 ≤ A := by omega
  have hB : 0 ≤ B := by omega
  have h : (x * y).natAbs ≤ A.natAbs * B.natAbs := by
    rw [Int.natAbs_mul]; exact Nat.mul_le_mul (by omega) (by omega)
  have h2 : ((A.natAbs * B.natAbs : Nat) : Int) = A * B := by
    rw [Int.natCast_mul, Int.natAbs_of_nonneg hA, Int.natAbs_of_nonneg hB]
  omega

/-- The sign of a number. -/
def sgn (n : Int) : Int := if n < 0 then -1 else if 0 < n then 1 else 0

/-- The square of the distance of two points. -/
def sqD (x y u v : Int) : Int := (u - x) * (u - x) + (v - y) * (v - y)
def sdQ (x y u v : Int) : Int := if ptB x y = true ∧ ptB u v = true then sqD x y u v else 0
def sdC (x y u v : Int) : Int := if ptB x y = true ∧ ptB u v = true then 0 else 1

/-- On which side of the line from (x, y) to (u, v) the point (a, b) is. -/
def trn (x y u v a b : Int) : Int := sgn ((u - x) * (b - y) - (v - y) * (a - x))
def tuQ (x y u v a b : Int) : Int := if ptB x y = true ∧ ptB u v = true ∧ ptB a b = true then trn x y u v a b else 0
def tuC (x y u v a b : Int) : Int := if ptB x y = true ∧ ptB u v = true ∧ ptB a b = true then 0 else 1

/-! ### spec -/
theorem sqD_eq (x y u v : Int) : sqD x y u v = (x - u) * (x - u) + (y - v) * (y - v) := by
  have h : ∀ a b : Int, (a - b) * (a - b) = (b - a) * (b - a) := fun a b => by rw [← Int.neg_sub b a, Int.neg_mul_neg]
  unfold sqD; rw [h u x, h v y]

/-! ### laws -/
end Go.Proofs.Ytknelhceaoblhaa.Pts
