import Derived.Test.YtkbcmkfgkomddaaNum
import Derived.Test.YtkbcmkfgkomddaaKit
import Derived.Deep.RegionHeld3
namespace Go.Proofs.Ytkbcmkfgkomddaa.Pts
open Go.ChangeShapes Go.WideShapes Go.ChangeAt Go.RowKit
open Go.Proofs.Ytkbcmkfgkomddaa.Num Go.Proofs.Ytkbcmkfgkomddaa.Kit
set_option linter.unusedVariables false
abbrev Pt (x y : Int) : Value := .agg #[.int .i64 x, .int .i64 y]
def coB (n : Int) : Bool := inB n (-1000000) 1000000
def ptB (x y : Int) : Bool := coB x && coB y
theorem ptB_yes {x y : Int} (h : ptB x y = true) : (-1000000 ≤ x ∧ x ≤ 1000000) ∧ -1000000 ≤ y ∧ y ≤ 1000000 := by
  unfold ptB coB at h; rw [Bool.and_eq_true] at h; exact ⟨of_inB h.1, of_inB h.2⟩
theorem isCoord_any (n : Int) (w : World) : Calls Try.prog 66 #[.int .i64 n] w fun e w' => e = .returned (.bool (coB n)) ∧ w = w' := by
  by_cases h1 : -1000000 ≤ n
  · by_cases h2 : n ≤ 1000000
    · have H := Lib.hid (show coB n = true from inB_yes h1 h2)
      go_enter Try.func66, Try.ntmps66
      go_wp2
      go_ret
      exact ⟨ret_bool H.out, rfl⟩
    · have H := Lib.hid (show coB n = false from inB_no (fun h => h2 h.2))
      go_enter Try.func66, Try.ntmps66
      go_wp2
      go_ret
      exact ⟨ret_bool H.out, rfl⟩
  · have H := Lib.hid (show coB n = false from inB_no (fun h => h1 h.1))
    go_enter Try.func66, Try.ntmps66
    go_wp2
    go_ret
    exact ⟨ret_bool H.out, rfl⟩
theorem isValid_any (x y : Int) (w : World) : Calls Try.prog 58 #[Pt x y] w fun e w' => e = .returned (.bool (ptB x y)) ∧ Ext w w' := by
  cases hx : coB x
  · have H := Lib.hid (show ptB x y = false by unfold ptB; rw [hx]; rfl)
    go_enter Try.func58, Try.ntmps58
    go_wp2_with (go_at_call 66; refine (isCoord_any _ _).mono ?_; rintro e w' ⟨rfl, rfl⟩)
    go_ret
    exact ⟨ret_bool H.out, (by repeat (first | exact Ext.refl _ | assumption | apply Ext.alloc | apply Ext.drew | (refine Ext.trans ?_ (by assumption)) | (refine Ext.setNew ?_ (by simp <;> omega) _)))⟩
  · have H := Lib.hid (show ptB x y = coB y by unfold ptB; rw [hx]; rfl)
    go_enter Try.func58, Try.ntmps58
    go_wp2_with (go_at_call 66; refine (isCoord_any _ _).mono ?_; rintro e w' ⟨rfl, rfl⟩)
    go_ret
    exact ⟨ret_bool H.out, (by repeat (first | exact Ext.refl _ | assumption | apply Ext.alloc | apply Ext.drew | (refine Ext.trans ?_ (by assumption)) | (refine Ext.setNew ?_ (by simp <;> omega) _)))⟩
theorem isPoint_spec (x y : Int) (w : World) : Calls Try.prog 59 #[Pt x y] w fun e w' => e = .returned (.bool (ptB x y)) ∧ Ext w w' := by
  cases hx : inB x (-1000000) 1000000
  · have H := Lib.hid (show ptB x y = false by unfold ptB coB; rw [hx]; rfl)
    go_enter Try.func59, Try.ntmps59
    go_wp2_with (go_at_call 22; refine (in_any _ _ _ _).mono ?_; rintro e w' ⟨rfl, rfl⟩)
    go_ret
    exact ⟨ret_bool H.out, (by repeat (first | exact Ext.refl _ | assumption | apply Ext.alloc | apply Ext.drew | (refine Ext.trans ?_ (by assumption)) | (refine Ext.setNew ?_ (by simp <;> omega) _)))⟩
  · have H := Lib.hid (show ptB x y = inB y (-1000000) 1000000 by unfold ptB coB; rw [hx]; rfl)
    go_enter Try.func59, Try.ntmps59
    go_wp2_with (go_at_call 22; refine (in_any _ _ _ _).mono ?_; rintro e w' ⟨rfl, rfl⟩)
    go_ret
    exact ⟨ret_bool H.out, (by repeat (first | exact Ext.refl _ | assumption | apply Ext.alloc | apply Ext.drew | (refine Ext.trans ?_ (by assumption)) | (refine Ext.setNew ?_ (by simp <;> omega) _)))⟩
theorem vectorTo_any (x y u v : Int) (w : World) (hx : -1000000 ≤ x ∧ x ≤ 1000000) (hy : -1000000 ≤ y ∧ y ≤ 1000000) (hu : -1000000 ≤ u ∧ u ≤ 1000000) (hv : -1000000 ≤ v ∧ v ≤ 1000000) :
    Calls Try.prog 57 #[Pt x y, Pt u v] w fun e w' => e = .returned (Pt (u - x) (v - y)) ∧ Ext w w' := by
  go_enter Try.func57, Try.ntmps57
  go_wp2
  exact bodyPost_ret (v := Pt (u - x) (v - y)) (by simp [results, Try.results57, go_sem]) rfl ⟨rfl, (by repeat (first | exact Ext.refl _ | assumption | apply Ext.alloc | apply Ext.drew | (refine Ext.trans ?_ (by assumption)) | (refine Ext.setNew ?_ (by simp <;> omega) _)))⟩
theorem mul_bd {x y : Int} (A B : Int) (hx : -A ≤ x ∧ x ≤ A) (hy : -B ≤ y ∧ y ≤ B) : -(A * B) ≤ x * y ∧ x * y ≤ A * B := by
  have hA : 0 ≤ A := by omega
  have hB : 0 ≤ B := by omega
  have h : (x * y).natAbs ≤ A.natAbs * B.natAbs := by
    rw [Int.natAbs_mul]; exact Nat.mul_le_mul (by omega) (by omega)
  have h2 : ((A.natAbs * B.natAbs : Nat) : Int) = A * B := by
    rw [Int.natCast_mul, Int.natAbs_of_nonneg hA, Int.natAbs_of_nonneg hB]
  omega
theorem dotI_any (x y u v : Int) (w : World) (hx : -2000000 ≤ x ∧ x ≤ 2000000) (hy : -2000000 ≤ y ∧ y ≤ 2000000) (hu : -2000000 ≤ u ∧ u ≤ 2000000) (hv : -2000000 ≤ v ∧ v ≤ 2000000) :
    Calls Try.prog 69 #[Pt x y, Pt u v] w fun e w' => e = .returned (.int .i64 (x * u + y * v)) ∧ Ext w w' := by
  obtain ⟨a1, a2⟩ := mul_bd 2000000 2000000 hx hu
  obtain ⟨b1, b2⟩ := mul_bd 2000000 2000000 hy hv
  simp only [Int.reduceMul, Int.reduceNeg] at a1 a2 b1 b2
  go_enter Try.func69, Try.ntmps69
  go_wp2
  go_ret
  exact ⟨rfl, (by repeat (first | exact Ext.refl _ | assumption | apply Ext.alloc | apply Ext.drew | (refine Ext.trans ?_ (by assumption)) | (refine Ext.setNew ?_ (by simp <;> omega) _)))⟩
theorem squareLength_any (x y : Int) (w : World) (hx : -2000000 ≤ x ∧ x ≤ 2000000) (hy : -2000000 ≤ y ∧ y ≤ 2000000) :
    Calls Try.prog 68 #[Pt x y] w fun e w' => e = .returned (.int .i64 (x * x + y * y)) ∧ Ext w w' := by
  go_enter Try.func68, Try.ntmps68
  go_wp2_with (go_at_call 69; refine (dotI_any _ _ _ _ _ (by omega) (by omega) (by omega) (by omega)).mono ?_; rintro e w1 ⟨rfl, hx⟩)
  go_ret
  exact ⟨rfl, (by repeat (first | exact Ext.refl _ | assumption | apply Ext.alloc | apply Ext.drew | (refine Ext.trans ?_ (by assumption)) | (refine Ext.setNew ?_ (by simp <;> omega) _)))⟩
theorem minus_any (x y u v : Int) (w : World) (hx : -1000000 ≤ x ∧ x ≤ 1000000) (hy : -1000000 ≤ y ∧ y ≤ 1000000) (hu : -1000000 ≤ u ∧ u ≤ 1000000) (hv : -1000000 ≤ v ∧ v ≤ 1000000) :
    Calls Try.prog 43 #[Pt x y, Pt u v] w fun e w' => e = .returned (Pt (x - u) (y - v)) ∧ Ext w w' := by
  go_enter Try.func43, Try.ntmps43
  go_wp2
  exact bodyPost_ret (v := Pt (x - u) (y - v)) (by simp [results, Try.results43, go_sem]) rfl ⟨rfl, (by repeat (first | exact Ext.refl _ | assumption | apply Ext.alloc | apply Ext.drew | (refine Ext.trans ?_ (by assumption)) | (refine Ext.setNew ?_ (by simp <;> omega) _)))⟩
theorem dot_any (x y u v : Int) (w : World) (hx : -2000000 ≤ x ∧ x ≤ 2000000) (hy : -2000000 ≤ y ∧ y ≤ 2000000) (hu : -2000000 ≤ u ∧ u ≤ 2000000) (hv : -2000000 ≤ v ∧ v ≤ 2000000) :
    Calls Try.prog 45 #[Pt x y, Pt u v] w fun e w' => e = .returned (.int .i64 (x * u + y * v)) ∧ Ext w w' := by
  obtain ⟨a1, a2⟩ := mul_bd 2000000 2000000 hx hu
  obtain ⟨b1, b2⟩ := mul_bd 2000000 2000000 hy hv
  simp only [Int.reduceMul, Int.reduceNeg] at a1 a2 b1 b2
  go_enter Try.func45, Try.ntmps45
  go_wp2
  go_ret
  exact ⟨rfl, (by repeat (first | exact Ext.refl _ | assumption | apply Ext.alloc | apply Ext.drew | (refine Ext.trans ?_ (by assumption)) | (refine Ext.setNew ?_ (by simp <;> omega) _)))⟩
theorem toPoint_any (x y : Int) (w : World) : Calls Try.prog 48 #[Pt x y] w fun e w' => e = .returned (Pt x y) ∧ Ext w w' := by
  go_enter Try.func48, Try.ntmps48
  go_wp2
  exact bodyPost_ret (v := Pt x y) (by simp [results, Try.results48, go_sem]) rfl ⟨rfl, (by repeat (first | exact Ext.refl _ | assumption | apply Ext.alloc | apply Ext.drew | (refine Ext.trans ?_ (by assumption)) | (refine Ext.setNew ?_ (by simp <;> omega) _)))⟩
end Go.Proofs.Ytkbcmkfgkomddaa.Pts
