import Derived.Test.YtknelhceaoblhaaGreatMNum
import Derived.Test.YtknelhceaoblhaaGreatMKit
import Derived.Deep.RegionHeld3
import Derived.Deep.QuietTactic
import Derived.BigQuiet
import Derived.Deep.LoopGhost
import Derived.OwnWalk
import Derived.Laws.OwnMore
import Derived.RegionTactic
import Derived.BigRegion
namespace Go.Proofs.YtknelhceaoblhaaGreat.Pts
open Go.ChangeShapes Go.WideShapes Go.ChangeAt Go.RowKit
open Go.Proofs.YtknelhceaoblhaaGreat.Num Go.Proofs.YtknelhceaoblhaaGreat.Kit
set_option linter.unusedVariables false
abbrev Pt (x y : Int) : Value := .agg #[.int .i64 x, .int .i64 y]
def coB (n : Int) : Bool := inB n (-1000000) 1000000
def ptB (x y : Int) : Bool := coB x && coB y
theorem ptB_yes {x y : Int} (h : ptB x y = true) : (-1000000 ≤ x ∧ x ≤ 1000000) ∧ -1000000 ≤ y ∧ y ≤ 1000000 := by
  unfold ptB coB at h; rw [Bool.and_eq_true] at h; exact ⟨of_inB h.1, of_inB h.2⟩
theorem isCoord_any (n : Int) (w : World) : Calls Tryz.prog 170 #[.int .i64 n] w fun e w' => e = .returned (.bool (coB n)) ∧ w = w' := by
  by_cases h1 : -1000000 ≤ n
  · by_cases h2 : n ≤ 1000000
    · have H := Lib.hid (show coB n = true from inB_yes h1 h2)
      go_enter Tryz.func170, Tryz.ntmps170
      go_wp2
      go_ret
      exact ⟨ret_bool H.out, rfl⟩
    · have H := Lib.hid (show coB n = false from inB_no (fun h => h2 h.2))
      go_enter Tryz.func170, Tryz.ntmps170
      go_wp2
      go_ret
      exact ⟨ret_bool H.out, rfl⟩
  · have H := Lib.hid (show coB n = false from inB_no (fun h => h1 h.1))
    go_enter Tryz.func170, Tryz.ntmps170
    go_wp2
    go_ret
    exact ⟨ret_bool H.out, rfl⟩
theorem isValid_any (x y : Int) (w : World) : Calls Tryz.prog 144 #[Pt x y] w fun e w' => e = .returned (.bool (ptB x y)) ∧ Ext w w' := by
  cases hx : coB x
  · have H := Lib.hid (show ptB x y = false by unfold ptB; rw [hx]; rfl)
    go_enter Tryz.func144, Tryz.ntmps144
    go_wp2_with (go_at_call 170; refine (isCoord_any _ _).mono ?_; rintro e w' ⟨rfl, rfl⟩)
    go_ret
    exact ⟨ret_bool H.out, (by repeat (first | exact Ext.refl _ | assumption | apply Ext.alloc | apply Ext.drew | (refine Ext.trans ?_ (by assumption)) | (refine Ext.setNew ?_ (by simp <;> omega) _)))⟩
  · have H := Lib.hid (show ptB x y = coB y by unfold ptB; rw [hx]; rfl)
    go_enter Tryz.func144, Tryz.ntmps144
    go_wp2_with (go_at_call 170; refine (isCoord_any _ _).mono ?_; rintro e w' ⟨rfl, rfl⟩)
    go_ret
    exact ⟨ret_bool H.out, (by repeat (first | exact Ext.refl _ | assumption | apply Ext.alloc | apply Ext.drew | (refine Ext.trans ?_ (by assumption)) | (refine Ext.setNew ?_ (by simp <;> omega) _)))⟩
theorem isPoint_spec (x y : Int) (w : World) : Calls Tryz.prog 77 #[Pt x y] w fun e w' => e = .returned (.bool (ptB x y)) ∧ Ext w w' := by
  cases hx : inB x (-1000000) 1000000
  · have H := Lib.hid (show ptB x y = false by unfold ptB coB; rw [hx]; rfl)
    go_enter Tryz.func77, Tryz.ntmps77
    go_wp2_with (go_at_call 65; refine (in_any _ _ _ _).mono ?_; rintro e w' ⟨rfl, rfl⟩)
    go_ret
    exact ⟨ret_bool H.out, (by repeat (first | exact Ext.refl _ | assumption | apply Ext.alloc | apply Ext.drew | (refine Ext.trans ?_ (by assumption)) | (refine Ext.setNew ?_ (by simp <;> omega) _)))⟩
  · have H := Lib.hid (show ptB x y = inB y (-1000000) 1000000 by unfold ptB coB; rw [hx]; rfl)
    go_enter Tryz.func77, Tryz.ntmps77
    go_wp2_with (go_at_call 65; refine (in_any _ _ _ _).mono ?_; rintro e w' ⟨rfl, rfl⟩)
    go_ret
    exact ⟨ret_bool H.out, (by repeat (first | exact Ext.refl _ | assumption | apply Ext.alloc | apply Ext.drew | (refine Ext.trans ?_ (by assumption)) | (refine Ext.setNew ?_ (by simp <;> omega) _)))⟩
theorem vectorTo_any (x y u v : Int) (w : World) (hx : -1000000 ≤ x ∧ x ≤ 1000000) (hy : -1000000 ≤ y ∧ y ≤ 1000000) (hu : -1000000 ≤ u ∧ u ≤ 1000000) (hv : -1000000 ≤ v ∧ v ≤ 1000000) :
    Calls Tryz.prog 180 #[Pt x y, Pt u v] w fun e w' => e = .returned (Pt (u - x) (v - y)) ∧ Ext w w' := by
  go_enter Tryz.func180, Tryz.ntmps180
  go_wp2
  exact bodyPost_ret (v := Pt (u - x) (v - y)) (by simp [results, Tryz.results180, go_sem]) rfl ⟨rfl, (by repeat (first | exact Ext.refl _ | assumption | apply Ext.alloc | apply Ext.drew | (refine Ext.trans ?_ (by assumption)) | (refine Ext.setNew ?_ (by simp <;> omega) _)))⟩
theorem mul_bd {x y : Int} (A B : Int) (hx : -A ≤ x ∧ x ≤ A) (hy : -B ≤ y ∧ y ≤ B) : -(A * B) ≤ x * y ∧ x * y ≤ A * B := by
  have hA : 0 ≤ A := by omega
  have hB : 0 ≤ B := by omega
  have h : (x * y).natAbs ≤ A.natAbs * B.natAbs := by
    rw [Int.natAbs_mul]; exact Nat.mul_le_mul (by omega) (by omega)
  have h2 : ((A.natAbs * B.natAbs : Nat) : Int) = A * B := by
    rw [Int.natCast_mul, Int.natAbs_of_nonneg hA, Int.natAbs_of_nonneg hB]
  omega
theorem dotI_any (x y u v : Int) (w : World) (hx : -2000000 ≤ x ∧ x ≤ 2000000) (hy : -2000000 ≤ y ∧ y ≤ 2000000) (hu : -2000000 ≤ u ∧ u ≤ 2000000) (hv : -2000000 ≤ v ∧ v ≤ 2000000) :
    Calls Tryz.prog 204 #[Pt x y, Pt u v] w fun e w' => e = .returned (.int .i64 (x * u + y * v)) ∧ Ext w w' := by
  obtain ⟨a1, a2⟩ := mul_bd 2000000 2000000 hx hu
  obtain ⟨b1, b2⟩ := mul_bd 2000000 2000000 hy hv
  simp only [Int.reduceMul, Int.reduceNeg] at a1 a2 b1 b2
  go_enter Tryz.func204, Tryz.ntmps204
  go_wp2
  go_ret
  exact ⟨rfl, (by repeat (first | exact Ext.refl _ | assumption | apply Ext.alloc | apply Ext.drew | (refine Ext.trans ?_ (by assumption)) | (refine Ext.setNew ?_ (by simp <;> omega) _)))⟩
theorem squareLength_any (x y : Int) (w : World) (hx : -2000000 ≤ x ∧ x ≤ 2000000) (hy : -2000000 ≤ y ∧ y ≤ 2000000) :
    Calls Tryz.prog 186 #[Pt x y] w fun e w' => e = .returned (.int .i64 (x * x + y * y)) ∧ Ext w w' := by
  go_enter Tryz.func186, Tryz.ntmps186
  go_wp2_with (go_at_call 204; refine (dotI_any _ _ _ _ _ (by omega) (by omega) (by omega) (by omega)).mono ?_; rintro e w1 ⟨rfl, hx⟩)
  go_ret
  exact ⟨rfl, (by repeat (first | exact Ext.refl _ | assumption | apply Ext.alloc | apply Ext.drew | (refine Ext.trans ?_ (by assumption)) | (refine Ext.setNew ?_ (by simp <;> omega) _)))⟩
theorem cross_any (x y u v : Int) (w : World) (hx : -2000000 ≤ x ∧ x ≤ 2000000) (hy : -2000000 ≤ y ∧ y ≤ 2000000) (hu : -2000000 ≤ u ∧ u ≤ 2000000) (hv : -2000000 ≤ v ∧ v ≤ 2000000) :
    Calls Tryz.prog 206 #[Pt x y, Pt u v] w fun e w' => e = .returned (.int .i64 (x * v - y * u)) ∧ Ext w w' := by
  obtain ⟨a1, a2⟩ := mul_bd 2000000 2000000 hx hv
  obtain ⟨b1, b2⟩ := mul_bd 2000000 2000000 hy hu
  simp only [Int.reduceMul, Int.reduceNeg] at a1 a2 b1 b2
  go_enter Tryz.func206, Tryz.ntmps206
  go_wp2
  go_ret
  exact ⟨rfl, (by repeat (first | exact Ext.refl _ | assumption | apply Ext.alloc | apply Ext.drew | (refine Ext.trans ?_ (by assumption)) | (refine Ext.setNew ?_ (by simp <;> omega) _)))⟩
def sgn (n : Int) : Int := if n < 0 then -1 else if 0 < n then 1 else 0
theorem signOf_any (n : Int) (w : World) : Calls Tryz.prog 230 #[.int .i64 n] w fun e w' => e = .returned (.int .i64 (sgn n)) ∧ w = w' := by
  by_cases h1 : n < 0
  · have H := Lib.hid (show sgn n = -1 by unfold sgn; rw [if_pos h1])
    go_enter Tryz.func230, Tryz.ntmps230
    go_wp2
    go_ret
    exact ⟨ret_int H.out, rfl⟩
  · by_cases h2 : 0 < n
    · have H := Lib.hid (show sgn n = 1 by unfold sgn; rw [if_neg h1, if_pos h2])
      go_enter Tryz.func230, Tryz.ntmps230
      go_wp2
      go_ret
      exact ⟨ret_int H.out, rfl⟩
    · have H := Lib.hid (show sgn n = 0 by unfold sgn; rw [if_neg h1, if_neg h2])
      go_enter Tryz.func230, Tryz.ntmps230
      go_wp2
      go_ret
      exact ⟨ret_int H.out, rfl⟩
def sqD (x y u v : Int) : Int := (u - x) * (u - x) + (v - y) * (v - y)
def trn (x y u v a b : Int) : Int := sgn ((u - x) * (b - y) - (v - y) * (a - x))
theorem minus_any (x y u v : Int) (w : World) (hx : -1000000 ≤ x ∧ x ≤ 1000000) (hy : -1000000 ≤ y ∧ y ≤ 1000000) (hu : -1000000 ≤ u ∧ u ≤ 1000000) (hv : -1000000 ≤ v ∧ v ≤ 1000000) :
    Calls Tryz.prog 137 #[Pt x y, Pt u v] w fun e w' => e = .returned (Pt (x - u) (y - v)) ∧ Ext w w' := by
  go_enter Tryz.func137, Tryz.ntmps137
  go_wp2
  exact bodyPost_ret (v := Pt (x - u) (y - v)) (by simp [results, Tryz.results137, go_sem]) rfl ⟨rfl, (by repeat (first | exact Ext.refl _ | assumption | apply Ext.alloc | apply Ext.drew | (refine Ext.trans ?_ (by assumption)) | (refine Ext.setNew ?_ (by simp <;> omega) _)))⟩
theorem dot_any (x y u v : Int) (w : World) (hx : -2000000 ≤ x ∧ x ≤ 2000000) (hy : -2000000 ≤ y ∧ y ≤ 2000000) (hu : -2000000 ≤ u ∧ u ≤ 2000000) (hv : -2000000 ≤ v ∧ v ≤ 2000000) :
    Calls Tryz.prog 138 #[Pt x y, Pt u v] w fun e w' => e = .returned (.int .i64 (x * u + y * v)) ∧ Ext w w' := by
  obtain ⟨a1, a2⟩ := mul_bd 2000000 2000000 hx hu
  obtain ⟨b1, b2⟩ := mul_bd 2000000 2000000 hy hv
  simp only [Int.reduceMul, Int.reduceNeg] at a1 a2 b1 b2
  go_enter Tryz.func138, Tryz.ntmps138
  go_wp2
  go_ret
  exact ⟨rfl, (by repeat (first | exact Ext.refl _ | assumption | apply Ext.alloc | apply Ext.drew | (refine Ext.trans ?_ (by assumption)) | (refine Ext.setNew ?_ (by simp <;> omega) _)))⟩
theorem crossS_any (x y u v : Int) (w : World) (hx : -2000000 ≤ x ∧ x ≤ 2000000) (hy : -2000000 ≤ y ∧ y ≤ 2000000) (hu : -2000000 ≤ u ∧ u ≤ 2000000) (hv : -2000000 ≤ v ∧ v ≤ 2000000) :
    Calls Tryz.prog 140 #[Pt x y, Pt u v] w fun e w' => e = .returned (.int .i64 (x * v - y * u)) ∧ Ext w w' := by
  obtain ⟨a1, a2⟩ := mul_bd 2000000 2000000 hx hv
  obtain ⟨b1, b2⟩ := mul_bd 2000000 2000000 hy hu
  simp only [Int.reduceMul, Int.reduceNeg] at a1 a2 b1 b2
  go_enter Tryz.func140, Tryz.ntmps140
  go_wp2
  go_ret
  exact ⟨rfl, (by repeat (first | exact Ext.refl _ | assumption | apply Ext.alloc | apply Ext.drew | (refine Ext.trans ?_ (by assumption)) | (refine Ext.setNew ?_ (by simp <;> omega) _)))⟩
theorem sign_any (n : Int) (w : World) : Calls Tryz.prog 154 #[.int .i64 n] w fun e w' => e = .returned (.int .i64 (sgn n)) ∧ w = w' := by
  by_cases h1 : n < 0
  · have H := Lib.hid (show sgn n = -1 by unfold sgn; rw [if_pos h1])
    go_enter Tryz.func154, Tryz.ntmps154
    go_wp2
    go_ret
    exact ⟨ret_int H.out, rfl⟩
  · by_cases h2 : 0 < n
    · have H := Lib.hid (show sgn n = 1 by unfold sgn; rw [if_neg h1, if_pos h2])
      go_enter Tryz.func154, Tryz.ntmps154
      go_wp2
      go_ret
      exact ⟨ret_int H.out, rfl⟩
    · have H := Lib.hid (show sgn n = 0 by unfold sgn; rw [if_neg h1, if_neg h2])
      go_enter Tryz.func154, Tryz.ntmps154
      go_wp2
      go_ret
      exact ⟨ret_int H.out, rfl⟩
theorem sqD_eq (x y u v : Int) : sqD x y u v = (x - u) * (x - u) + (y - v) * (y - v) := by
  have h : ∀ a b : Int, (a - b) * (a - b) = (b - a) * (b - a) := fun a b => by rw [← Int.neg_sub b a, Int.neg_mul_neg]
  unfold sqD; rw [h u x, h v y]
theorem square_any (x y u v : Int) (w : World) (hx : -1000000 ≤ x ∧ x ≤ 1000000) (hy : -1000000 ≤ y ∧ y ≤ 1000000) (hu : -1000000 ≤ u ∧ u ≤ 1000000) (hv : -1000000 ≤ v ∧ v ≤ 1000000) :
    Calls Tryz.prog 136 #[Pt x y, Pt u v] w fun e w' => e = .returned (.int .i64 (sqD x y u v)) ∧ Ext w w' := by
  have H := Lib.hid (sqD_eq x y u v)
  go_enter Tryz.func136, Tryz.ntmps136
  go_wp2_with fail
  go_region_held3 (fun w' => w'.cell? ⟨w.heap.size, 0, none⟩ = some (.int .i64 x) ∧ w'.cell? ⟨w.heap.size, 1, none⟩ = some (.int .i64 y) ∧ w'.cell? ⟨w.heap.size + 1, 0, none⟩ = some (.int .i64 u) ∧ w'.cell? ⟨w.heap.size + 1, 1, none⟩ = some (.int .i64 v))
    (first | go_keep | (go_split_ands; refine ⟨?_, ?_, ?_, ?_⟩ <;> exact Ext.cellOf hx (by assumption)))
    (first | (go_at_call 137; refine (minus_any _ _ _ _ _ (by omega) (by omega) (by omega) (by omega)).mono ?_; rintro e w1 ⟨rfl, hx⟩) | (go_at_call 138; refine (dot_any _ _ _ _ _ (by omega) (by omega) (by omega) (by omega)).mono ?_; rintro e w1 ⟨rfl, hx⟩))
  all_goals
    go_wp2
    go_ret
    exact ⟨ret_int H.out, (by repeat (first | exact Ext.refl _ | assumption | apply Ext.alloc | apply Ext.drew | (refine Ext.trans ?_ (by assumption)) | (refine Ext.setNew ?_ (by simp <;> omega) _)))⟩
theorem turn_any (x y u v a b : Int) (w : World) (hx : -1000000 ≤ x ∧ x ≤ 1000000) (hy : -1000000 ≤ y ∧ y ≤ 1000000) (hu : -1000000 ≤ u ∧ u ≤ 1000000) (hv : -1000000 ≤ v ∧ v ≤ 1000000) (ha : -1000000 ≤ a ∧ a ≤ 1000000) (hb : -1000000 ≤ b ∧ b ≤ 1000000) :
    Calls Tryz.prog 168 #[Pt x y, Pt u v, Pt a b] w fun e w' => e = .returned (.int .i64 (trn x y u v a b)) ∧ Ext w w' := by
  go_enter Tryz.func168, Tryz.ntmps168
  go_wp2_with fail
  obtain ⟨c1, c2, c3, c4, c5, c6⟩ := boxes3 w 113 x y u v a b
  go_region_held3 (fun w' => w'.cell? ⟨w.heap.size, 0, none⟩ = some (.int .i64 x) ∧ w'.cell? ⟨w.heap.size, 1, none⟩ = some (.int .i64 y) ∧ w'.cell? ⟨w.heap.size + 1, 0, none⟩ = some (.int .i64 u) ∧ w'.cell? ⟨w.heap.size + 1, 1, none⟩ = some (.int .i64 v) ∧ w'.cell? ⟨w.heap.size + 1 + 1, 0, none⟩ = some (.int .i64 a) ∧ w'.cell? ⟨w.heap.size + 1 + 1, 1, none⟩ = some (.int .i64 b))
    (first | exact ⟨c1, c2, c3, c4, c5, c6⟩ | (go_split_ands; refine ⟨?_, ?_, ?_, ?_, ?_, ?_⟩ <;> first | assumption | exact Ext.cellOf hx (by assumption)))
    (first | (go_at_call 137; refine (minus_any _ _ _ _ _ (by omega) (by omega) (by omega) (by omega)).mono ?_; rintro e w1 ⟨rfl, hx⟩) | (go_at_call 140; refine (crossS_any _ _ _ _ _ (by omega) (by omega) (by omega) (by omega)).mono ?_; rintro e w1 ⟨rfl, hx⟩) | (go_at_call 154; refine (sign_any _ _).mono ?_; rintro e w1 ⟨rfl, rfl⟩))
  all_goals
    go_wp2
    go_ret
    exact ⟨ret_int rfl, (by repeat (first | exact Ext.refl _ | assumption | apply Ext.alloc | apply Ext.drew | (refine Ext.trans ?_ (by assumption)) | (refine Ext.setNew ?_ (by simp <;> omega) _)))⟩
end Go.Proofs.YtknelhceaoblhaaGreat.Pts
namespace Go.Proofs.YtknelhceaoblhaaGreat.Pts
open Go.ChangeShapes Go.WideShapes Go.ChangeAt Go.RowKit
open Go.Proofs.YtknelhceaoblhaaGreat.Num Go.Proofs.YtknelhceaoblhaaGreat.Kit
set_option linter.unusedVariables false
theorem isHullLength_any (n : Int) (w : World) : Calls Tryz.prog 71 #[.int .i64 n] w fun e w' => e = .returned (.bool (inB n 1 1000)) ∧ w = w' := by
  by_cases h1 : 1 ≤ n
  · by_cases h2 : n ≤ 1000
    · have H := Lib.hid (inB_yes h1 h2)
      go_enter Tryz.func71, Tryz.ntmps71
      go_wp2
      go_ret
      exact ⟨ret_bool H.out, rfl⟩
    · have H := Lib.hid (inB_no (n := n) (lo := 1) (hi := 1000) (fun h => h2 h.2))
      go_enter Tryz.func71, Tryz.ntmps71
      go_wp2
      go_ret
      exact ⟨ret_bool H.out, rfl⟩
  · have H := Lib.hid (inB_no (n := n) (lo := 1) (hi := 1000) (fun h => h1 h.1))
    go_enter Tryz.func71, Tryz.ntmps71
    go_wp2
    go_ret
    exact ⟨ret_bool H.out, rfl⟩
theorem isPointDistance_any (n : Int) (w : World) : Calls Tryz.prog 123 #[.int .i64 n] w fun e w' => e = .returned (.bool (inB n 0 10000)) ∧ w = w' := by
  by_cases h1 : 0 ≤ n
  · by_cases h2 : n ≤ 10000
    · have H := Lib.hid (inB_yes h1 h2)
      go_enter Tryz.func123, Tryz.ntmps123
      go_wp2
      go_ret
      exact ⟨ret_bool H.out, rfl⟩
    · have H := Lib.hid (inB_no (n := n) (lo := 0) (hi := 10000) (fun h => h2 h.2))
      go_enter Tryz.func123, Tryz.ntmps123
      go_wp2
      go_ret
      exact ⟨ret_bool H.out, rfl⟩
  · have H := Lib.hid (inB_no (n := n) (lo := 0) (hi := 10000) (fun h => h1 h.1))
    go_enter Tryz.func123, Tryz.ntmps123
    go_wp2
    go_ret
    exact ⟨ret_bool H.out, rfl⟩
end Go.Proofs.YtknelhceaoblhaaGreat.Pts
namespace Go.Proofs.YtknelhceaoblhaaGreat.Wch
open Go.ChangeShapes Go.WideShapes Go.ChangeAt Go.RowKit
open Go.Proofs.YtknelhceaoblhaaGreat.Num Go.Proofs.YtknelhceaoblhaaGreat.Kit Go.Proofs.YtknelhceaoblhaaGreat.Pts
set_option linter.unusedVariables false
set_option linter.unusedSimpArgs false
abbrev Wt (l s d p : Int) : Value := .agg #[.int .i64 l, .int .i64 s, .int .i64 d, .int .i64 p]
def wtB (l s d p : Int) : Bool := inB l 1 1000 && (inB s 0 60000 && (inB d 0 10000 && inB p 1 60000))
theorem wt_no1 {l s d p : Int} (h : inB l 1 1000 = false) : wtB l s d p = false := by unfold wtB; rw [h]; rfl
theorem wt_no2 {l s d p : Int} (h : inB s 0 60000 = false) : wtB l s d p = false := by unfold wtB; rw [h]; simp
theorem wt_no3 {l s d p : Int} (h : inB d 0 10000 = false) : wtB l s d p = false := by unfold wtB; rw [h]; simp
theorem wt_no4 {l s d p : Int} (h : inB p 1 60000 = false) : wtB l s d p = false := by unfold wtB; rw [h]; simp
theorem wt_all {l s d p : Int} (h1 : inB l 1 1000 = true) (h2 : inB s 0 60000 = true) (h3 : inB d 0 10000 = true) (h4 : inB p 1 60000 = true) : wtB l s d p = true := by unfold wtB; rw [h1, h2, h3, h4]; rfl
theorem wt_yes {l s d p : Int} (h : wtB l s d p = true) : (1 ≤ l ∧ l ≤ 1000) ∧ (0 ≤ s ∧ s ≤ 60000) ∧ (0 ≤ d ∧ d ≤ 10000) ∧ 1 ≤ p ∧ p ≤ 60000 := by
  unfold wtB at h
  simp only [Bool.and_eq_true] at h
  exact ⟨of_inB h.1, of_inB h.2.1, of_inB h.2.2.1, of_inB h.2.2.2⟩
theorem spanW_any (n : Int) (w : World) : Calls Tryz.prog 72 #[.int .i64 n] w fun e w' => e = .returned (.bool (inB n 0 60000)) ∧ w = w' := by
  by_cases h1 : 0 ≤ n
  · by_cases h2 : n ≤ 60000
    · have H := Lib.hid (inB_yes h1 h2)
      go_enter Tryz.func72, Tryz.ntmps72
      go_wp2
      go_ret
      exact ⟨ret_bool H.out, rfl⟩
    · have H := Lib.hid (inB_no (n := n) (lo := 0) (hi := 60000) (fun h => h2 h.2))
      go_enter Tryz.func72, Tryz.ntmps72
      go_wp2
      go_ret
      exact ⟨ret_bool H.out, rfl⟩
  · have H := Lib.hid (inB_no (n := n) (lo := 0) (hi := 60000) (fun h => h1 h.1))
    go_enter Tryz.func72, Tryz.ntmps72
    go_wp2
    go_ret
    exact ⟨ret_bool H.out, rfl⟩
set_option maxHeartbeats 1000000 in
theorem watchValid_any (l s d p : Int) (w : World) : Calls Tryz.prog 44 #[Wt l s d p] w fun e w' => e = .returned (.bool (wtB l s d p)) ∧ Ext w w' := by
  cases h1 : inB l 1 1000
  · have H := Lib.hid (wt_no1 (s := s) (d := d) (p := p) h1)
    go_enter Tryz.func44, Tryz.ntmps44
    go_wp2_with (first | (go_at_call 71; refine (isHullLength_any _ _).mono ?_; rintro e w1 ⟨rfl, rfl⟩) | (go_at_call 72; refine (spanW_any _ _).mono ?_; rintro e w1 ⟨rfl, rfl⟩))
    go_ret
    exact ⟨ret_bool H.out, (by repeat (first | exact Ext.refl _ | assumption | apply Ext.alloc | apply Ext.drew | (refine Ext.trans ?_ (by assumption)) | (refine Ext.setNew ?_ (by simp <;> omega) _)))⟩
  cases h2 : inB s 0 60000
  · have H := Lib.hid (wt_no2 (l := l) (d := d) (p := p) h2)
    go_enter Tryz.func44, Tryz.ntmps44
    go_wp2_with (first | (go_at_call 71; refine (isHullLength_any _ _).mono ?_; rintro e w1 ⟨rfl, rfl⟩) | (go_at_call 72; refine (spanW_any _ _).mono ?_; rintro e w1 ⟨rfl, rfl⟩))
    go_ret
    exact ⟨ret_bool H.out, (by repeat (first | exact Ext.refl _ | assumption | apply Ext.alloc | apply Ext.drew | (refine Ext.trans ?_ (by assumption)) | (refine Ext.setNew ?_ (by simp <;> omega) _)))⟩
  by_cases a1 : 0 ≤ d
  rotate_left
  · have H := Lib.hid (wt_no3 (l := l) (s := s) (p := p) (inB_no (n := d) (lo := 0) (hi := 10000) (fun h => a1 h.1)))
    go_enter Tryz.func44, Tryz.ntmps44
    go_wp2_with (first | (go_at_call 71; refine (isHullLength_any _ _).mono ?_; rintro e w1 ⟨rfl, rfl⟩) | (go_at_call 72; refine (spanW_any _ _).mono ?_; rintro e w1 ⟨rfl, rfl⟩))
    go_ret
    exact ⟨ret_bool H.out, (by repeat (first | exact Ext.refl _ | assumption | apply Ext.alloc | apply Ext.drew | (refine Ext.trans ?_ (by assumption)) | (refine Ext.setNew ?_ (by simp <;> omega) _)))⟩
  by_cases a2 : d ≤ 10000
  rotate_left
  · have H := Lib.hid (wt_no3 (l := l) (s := s) (p := p) (inB_no (n := d) (lo := 0) (hi := 10000) (fun h => a2 h.2)))
    go_enter Tryz.func44, Tryz.ntmps44
    go_wp2_with (first | (go_at_call 71; refine (isHullLength_any _ _).mono ?_; rintro e w1 ⟨rfl, rfl⟩) | (go_at_call 72; refine (spanW_any _ _).mono ?_; rintro e w1 ⟨rfl, rfl⟩))
    go_ret
    exact ⟨ret_bool H.out, (by repeat (first | exact Ext.refl _ | assumption | apply Ext.alloc | apply Ext.drew | (refine Ext.trans ?_ (by assumption)) | (refine Ext.setNew ?_ (by simp <;> omega) _)))⟩
  by_cases a3 : 1 ≤ p
  rotate_left
  · have H := Lib.hid (wt_no4 (l := l) (s := s) (d := d) (inB_no (n := p) (lo := 1) (hi := 60000) (fun h => a3 h.1)))
    go_enter Tryz.func44, Tryz.ntmps44
    go_wp2_with (first | (go_at_call 71; refine (isHullLength_any _ _).mono ?_; rintro e w1 ⟨rfl, rfl⟩) | (go_at_call 72; refine (spanW_any _ _).mono ?_; rintro e w1 ⟨rfl, rfl⟩))
    go_ret
    exact ⟨ret_bool H.out, (by repeat (first | exact Ext.refl _ | assumption | apply Ext.alloc | apply Ext.drew | (refine Ext.trans ?_ (by assumption)) | (refine Ext.setNew ?_ (by simp <;> omega) _)))⟩
  by_cases a4 : p ≤ 60000
  · have H := Lib.hid (wt_all h1 h2 (inB_yes a1 a2) (inB_yes a3 a4))
    go_enter Tryz.func44, Tryz.ntmps44
    go_wp2_with (first | (go_at_call 71; refine (isHullLength_any _ _).mono ?_; rintro e w1 ⟨rfl, rfl⟩) | (go_at_call 72; refine (spanW_any _ _).mono ?_; rintro e w1 ⟨rfl, rfl⟩))
    go_ret
    exact ⟨ret_bool H.out, (by repeat (first | exact Ext.refl _ | assumption | apply Ext.alloc | apply Ext.drew | (refine Ext.trans ?_ (by assumption)) | (refine Ext.setNew ?_ (by simp <;> omega) _)))⟩
  · have H := Lib.hid (wt_no4 (l := l) (s := s) (d := d) (inB_no (n := p) (lo := 1) (hi := 60000) (fun h => a4 h.2)))
    have b4 : decide (p ≤ 60000) = false := decide_eq_false a4
    go_enter Tryz.func44, Tryz.ntmps44
    go_wp2_with (first | (go_at_call 71; refine (isHullLength_any _ _).mono ?_; rintro e w1 ⟨rfl, rfl⟩) | (go_at_call 72; refine (spanW_any _ _).mono ?_; rintro e w1 ⟨rfl, rfl⟩))
    go_ret
    exact ⟨ret_bool H.out, (by repeat (first | exact Ext.refl _ | assumption | apply Ext.alloc | apply Ext.drew | (refine Ext.trans ?_ (by assumption)) | (refine Ext.setNew ?_ (by simp <;> omega) _)))⟩
theorem isWatch_spec (l s d p : Int) (w : World) : Calls Tryz.prog 51 #[Wt l s d p] w fun e w' => e = .returned (.bool (wtB l s d p)) ∧ Ext w w' := by
  cases h1 : inB l 1 1000
  · have H := Lib.hid (wt_no1 (s := s) (d := d) (p := p) h1)
    go_enter Tryz.func51, Tryz.ntmps51
    go_wp2_with (go_at_call 65; refine (in_any _ _ _ _).mono ?_; rintro e w1 ⟨rfl, rfl⟩)
    go_ret
    exact ⟨ret_bool H.out, (by repeat (first | exact Ext.refl _ | assumption | apply Ext.alloc | apply Ext.drew | (refine Ext.trans ?_ (by assumption)) | (refine Ext.setNew ?_ (by simp <;> omega) _)))⟩
  cases h2 : inB s 0 60000
  · have H := Lib.hid (wt_no2 (l := l) (d := d) (p := p) h2)
    go_enter Tryz.func51, Tryz.ntmps51
    go_wp2_with (go_at_call 65; refine (in_any _ _ _ _).mono ?_; rintro e w1 ⟨rfl, rfl⟩)
    go_ret
    exact ⟨ret_bool H.out, (by repeat (first | exact Ext.refl _ | assumption | apply Ext.alloc | apply Ext.drew | (refine Ext.trans ?_ (by assumption)) | (refine Ext.setNew ?_ (by simp <;> omega) _)))⟩
  cases h3 : inB d 0 10000
  · have H := Lib.hid (wt_no3 (l := l) (s := s) (p := p) h3)
    go_enter Tryz.func51, Tryz.ntmps51
    go_wp2_with (go_at_call 65; refine (in_any _ _ _ _).mono ?_; rintro e w1 ⟨rfl, rfl⟩)
    go_ret
    exact ⟨ret_bool H.out, (by repeat (first | exact Ext.refl _ | assumption | apply Ext.alloc | apply Ext.drew | (refine Ext.trans ?_ (by assumption)) | (refine Ext.setNew ?_ (by simp <;> omega) _)))⟩
  cases h4 : inB p 1 60000
  · have H := Lib.hid (wt_no4 (l := l) (s := s) (d := d) h4)
    go_enter Tryz.func51, Tryz.ntmps51
    go_wp2_with (go_at_call 65; refine (in_any _ _ _ _).mono ?_; rintro e w1 ⟨rfl, rfl⟩)
    go_ret
    exact ⟨ret_bool H.out, (by repeat (first | exact Ext.refl _ | assumption | apply Ext.alloc | apply Ext.drew | (refine Ext.trans ?_ (by assumption)) | (refine Ext.setNew ?_ (by simp <;> omega) _)))⟩
  · have H := Lib.hid (wt_all h1 h2 h3 h4)
    go_enter Tryz.func51, Tryz.ntmps51
    go_wp2_with (go_at_call 65; refine (in_any _ _ _ _).mono ?_; rintro e w1 ⟨rfl, rfl⟩)
    go_ret
    exact ⟨ret_bool H.out, (by repeat (first | exact Ext.refl _ | assumption | apply Ext.alloc | apply Ext.drew | (refine Ext.trans ?_ (by assumption)) | (refine Ext.setNew ?_ (by simp <;> omega) _)))⟩
theorem toWatch_any (l s d p : Int) (w : World) : Calls Tryz.prog 17 #[Wt l s d p] w fun e w' => e = .returned (Wt l s d p) ∧ Ext w w' := by
  go_enter Tryz.func17, Tryz.ntmps17
  go_wp2
  exact bodyPost_ret (v := Wt l s d p) (by simp [results, Tryz.results17, go_sem]) rfl ⟨rfl, (by repeat (first | exact Ext.refl _ | assumption | apply Ext.alloc | apply Ext.drew | (refine Ext.trans ?_ (by assumption)) | (refine Ext.setNew ?_ (by simp <;> omega) _)))⟩
end Go.Proofs.YtknelhceaoblhaaGreat.Wch
namespace Go.Proofs.YtknelhceaoblhaaGreat.Trk
open Go.ChangeShapes Go.WideShapes Go.ChangeAt Go.RowKit
open Go.Proofs.YtknelhceaoblhaaGreat.Num Go.Proofs.YtknelhceaoblhaaGreat.Kit Go.Proofs.YtknelhceaoblhaaGreat.Pts
set_option linter.unusedVariables false
set_option linter.unusedSimpArgs false
structure F3 where
  t : Int
  x : Int
  y : Int
deriving DecidableEq
abbrev Fx (t x y : Int) : Value := .agg #[.int .i64 t, .int .i64 x, .int .i64 y]
abbrev Tr (s : Value) : Value := .agg #[s]
def fx (fs : List F3) (i : Nat) : F3 := fs.getD i ⟨0, 0, 0⟩
def At (w : World) (b o : Nat) (f : F3) : Prop := w.cell? ⟨b, o, none⟩ = some (.int .i64 f.t) ∧ w.cell? ⟨b, o + 1, none⟩ = some (.int .i64 f.x) ∧ w.cell? ⟨b, o + 2, none⟩ = some (.int .i64 f.y)
theorem At.ext {w w' : World} {b o : Nat} {f : F3} (h : At w b o f) (k : Ext w w') : At w' b o f := ⟨k.cellOf h.1, k.cellOf h.2.1, k.cellOf h.2.2⟩
def Fxs (w : World) (a : Option Addr) (fs : List F3) : Prop :=
  fs.length ≤ maxLen ∧ (fs = [] ∨ ∃ b off, a = some ⟨b, off, none⟩ ∧ ∀ i, i < fs.length → At w b (off + i * 3) (fx fs i))
theorem Fxs.ext {w w' : World} {a : Option Addr} {fs : List F3} (h : Fxs w a fs) (k : Ext w w') : Fxs w' a fs := by
  refine ⟨h.1, ?_⟩
  rcases h.2 with h | ⟨b, off, ha, h⟩
  · exact .inl h
  · exact .inr ⟨b, off, ha, fun i hi => (h i hi).ext k⟩
def Own (w : World) (B : Nat) (fs : List F3) : Prop := ∀ i, i < fs.length → At w B (i * 3) (fx fs i) ∧ w.frozen? ⟨B, i * 3, none⟩ = false ∧ w.frozen? ⟨B, i * 3 + 1, none⟩ = false ∧ w.frozen? ⟨B, i * 3 + 2, none⟩ = false
def szL (m : Int) (len : Nat) : Int := if m - len < 0 then -1 else m - len
theorem szL_neg {m : Int} {len : Nat} (h : m - len < 0) : szL m len = -1 := if_pos h
theorem szL_pos {m : Int} {len : Nat} (h : ¬ m - len < 0) : szL m len = m - len := if_neg h
theorem szFixS_any (a : Option Addr) (len cap : Nat) (m : Int) (w : World) (hl : len ≤ maxLen) (h0 : 0 ≤ m) (hm : m ≤ 1048576) :
    Calls Tryz.prog 45 #[.slice a len cap, .int .i64 m] w fun e w' => e = .returned (.int .i64 (szL m len)) ∧ w = w' := by
  unfold maxLen at hl
  by_cases h : m - len < 0
  · have H := Lib.hid (szL_neg h)
    go_enter Tryz.func45, Tryz.ntmps45
    go_wp2
    go_ret
    exact ⟨ret_int H.out, rfl⟩
  · have H := Lib.hid (szL_pos h)
    go_enter Tryz.func45, Tryz.ntmps45
    go_wp2
    go_ret
    exact ⟨ret_int H.out, rfl⟩
theorem szTrack_any (a : Option Addr) (len cap : Nat) (m : Int) (w : World) (hl : len ≤ maxLen) (h0 : 0 ≤ m) (hm : m ≤ 1048576) :
    Calls Tryz.prog 15 #[Tr (.slice a len cap), .int .i64 m] w fun e w' => e = .returned (.int .i64 (szL m len)) ∧ Ext w w' := by
  have HL := Lib.hid hl
  by_cases h : m - len < 0
  · have H := Lib.hid (szL_neg h)
    go_enter Tryz.func15, Tryz.ntmps15
    go_wp2_with (go_at_call 45; refine (szFixS_any _ _ _ _ _ HL.out h0 hm).mono ?_; rw [H.out]; rintro e w1 ⟨rfl, rfl⟩)
    go_ret
    exact ⟨ret_int H.out, (by repeat (first | exact Ext.refl _ | assumption | apply Ext.alloc | apply Ext.drew | (refine Ext.trans ?_ (by assumption)) | (refine Ext.setNew ?_ (by simp <;> omega) _)))⟩
  · have H := Lib.hid (szL_pos h)
    go_enter Tryz.func15, Tryz.ntmps15
    go_wp2_with (go_at_call 45; refine (szFixS_any _ _ _ _ _ HL.out h0 hm).mono ?_; rw [H.out]; rintro e w1 ⟨rfl, rfl⟩)
    go_ret
    exact ⟨ret_int H.out, (by repeat (first | exact Ext.refl _ | assumption | apply Ext.alloc | apply Ext.drew | (refine Ext.trans ?_ (by assumption)) | (refine Ext.setNew ?_ (by simp <;> omega) _)))⟩
theorem toFix_any (t x y : Int) (w : World) : Calls Tryz.prog 75 #[Fx t x y] w fun e w' => e = .returned (Fx t x y) ∧ Ext w w' := by
  go_enter Tryz.func75, Tryz.ntmps75
  go_wp2
  exact bodyPost_ret (v := Fx t x y) (by simp [results, Tryz.results75, go_sem]) rfl ⟨rfl, (by repeat (first | exact Ext.refl _ | assumption | apply Ext.alloc | apply Ext.drew | (refine Ext.trans ?_ (by assumption)) | (refine Ext.setNew ?_ (by simp <;> omega) _)))⟩
def eqF (f g : F3) : Bool := (f.t == g.t) && ((f.x == g.x) && (f.y == g.y))
theorem eqFix_any (t x y u p q : Int) (w : World) : Calls Tryz.prog 76 #[Fx t x y, Fx u p q] w fun e w' => e = .returned (.bool (eqF ⟨t, x, y⟩ ⟨u, p, q⟩)) ∧ Ext w w' := by
  have H := Lib.hid (show eqF ⟨t, x, y⟩ ⟨u, p, q⟩ = ((t == u) && ((x == p) && (y == q))) from rfl)
  cases h1 : (t == u)
  · rw [h1] at H
    have h1' : (t != u) = true := by simp [bne, h1]
    go_enter Tryz.func76, Tryz.ntmps76
    go_wp2
    go_ret
    exact ⟨ret_bool H.out, (by repeat (first | exact Ext.refl _ | assumption | apply Ext.alloc | apply Ext.drew | (refine Ext.trans ?_ (by assumption)) | (refine Ext.setNew ?_ (by simp <;> omega) _)))⟩
  · rw [h1] at H
    have h1' : (t != u) = false := by simp [bne, h1]
    cases h2 : (x == p)
    · rw [h2] at H
      have h2' : (x != p) = true := by simp [bne, h2]
      go_enter Tryz.func76, Tryz.ntmps76
      go_wp2
      go_ret
      exact ⟨ret_bool H.out, (by repeat (first | exact Ext.refl _ | assumption | apply Ext.alloc | apply Ext.drew | (refine Ext.trans ?_ (by assumption)) | (refine Ext.setNew ?_ (by simp <;> omega) _)))⟩
    · rw [h2] at H
      have h2' : (x != p) = false := by simp [bne, h2]
      cases h3 : (y == q)
      · rw [h3] at H
        have h3' : (y != q) = true := by simp [bne, h3]
        go_enter Tryz.func76, Tryz.ntmps76
        go_wp2
        go_ret
        exact ⟨ret_bool H.out, (by repeat (first | exact Ext.refl _ | assumption | apply Ext.alloc | apply Ext.drew | (refine Ext.trans ?_ (by assumption)) | (refine Ext.setNew ?_ (by simp <;> omega) _)))⟩
      · rw [h3] at H
        have h3' : (y != q) = false := by simp [bne, h3]
        go_enter Tryz.func76, Tryz.ntmps76
        go_wp2
        go_ret
        exact ⟨ret_bool H.out, (by repeat (first | exact Ext.refl _ | assumption | apply Ext.alloc | apply Ext.drew | (refine Ext.trans ?_ (by assumption)) | (refine Ext.setNew ?_ (by simp <;> omega) _)))⟩
def NewF (w : World) (fs : List F3) (e : Ending) (w' : World) : Prop := ∃ B, e = .returned (.slice (some ⟨B, 0, none⟩) fs.length fs.length) ∧ w.heap.size ≤ B ∧ Own w' B fs ∧ Ext w w'
def RelT (w : World) (fs : List F3) (i : Value) (wr : World) : Prop :=
  ∃ k : Nat, i = .int .i64 k ∧ k ≤ fs.length ∧ (∀ j, j < fs.length * 3 → (∃ v, wr.cell? ⟨w.heap.size, j, none⟩ = some v) ∧ wr.frozen? ⟨w.heap.size, j, none⟩ = false) ∧ (∀ j, j < k → At wr w.heap.size (j * 3) (fx fs j)) ∧ Ext w wr
theorem RelT.step {w wr w2 : World} {fs : List F3} {k : Nat} (hk : k < fs.length) (hc : ∀ j, j < fs.length * 3 → (∃ v, wr.cell? ⟨w.heap.size, j, none⟩ = some v) ∧ wr.frozen? ⟨w.heap.size, j, none⟩ = false)
    (hd : ∀ j, j < k → At wr w.heap.size (j * 3) (fx fs j)) (hx : Ext w wr) (hy : Ext wr w2) :
    RelT w fs (.int .i64 (k + 1)) (((w2.setCell ⟨w.heap.size, k * 3, none⟩ (.int .i64 (fx fs k).t)).setCell ⟨w.heap.size, k * 3 + 1, none⟩ (.int .i64 (fx fs k).x)).setCell ⟨w.heap.size, k * 3 + 2, none⟩ (.int .i64 (fx fs k).y)) := by
  obtain ⟨⟨v0, d0⟩, f0⟩ := hc (k * 3) (by omega)
  obtain ⟨⟨v1, d1⟩, f1⟩ := hc (k * 3 + 1) (by omega)
  obtain ⟨⟨v2, d2⟩, f2⟩ := hc (k * 3 + 2) (by omega)
  have other : ∀ (W : World) (p q : Nat) (u : Value), p ≠ q → (W.setCell ⟨w.heap.size, p, none⟩ u).cell? ⟨w.heap.size, q, none⟩ = W.cell? ⟨w.heap.size, q, none⟩ := fun W p q u h => World.cell?_setCell_other _ _ _ _ (by simp <;> omega)
  refine ⟨k + 1, by go_num, by omega, fun j hj => ?_, fun j hj => ?_, ?_⟩
  · obtain ⟨⟨v, hv⟩, hf⟩ := hc j hj
    refine ⟨?_, by simp only [World.frozen?_setCell]; exact hy.thawOf hv hf⟩
    by_cases h2 : k * 3 + 2 = j
    · subst h2; exact ⟨_, World.cell?_setCell_same _ _ _ (by rw [other _ _ _ _ (by omega), other _ _ _ _ (by omega)]; exact hy.cellOf d2)⟩
    · rw [other _ _ _ _ h2]
      by_cases h1 : k * 3 + 1 = j
      · subst h1; exact ⟨_, World.cell?_setCell_same _ _ _ (by rw [other _ _ _ _ (by omega)]; exact hy.cellOf d1)⟩
      · rw [other _ _ _ _ h1]
        by_cases h0 : k * 3 = j
        · subst h0; exact ⟨_, World.cell?_setCell_same _ _ _ (hy.cellOf d0)⟩
        · rw [other _ _ _ _ h0]; exact ⟨_, hy.cellOf hv⟩
  · by_cases h : j = k
    · subst h
      refine ⟨?_, ?_, ?_⟩
      · rw [other _ _ _ _ (by omega), other _ _ _ _ (by omega)]; exact World.cell?_setCell_same _ _ _ (hy.cellOf d0)
      · rw [other _ _ _ _ (by omega)]; exact World.cell?_setCell_same _ _ _ (by rw [other _ _ _ _ (by omega)]; exact hy.cellOf d1)
      · exact World.cell?_setCell_same _ _ _ (by rw [other _ _ _ _ (by omega), other _ _ _ _ (by omega)]; exact hy.cellOf d2)
    · obtain ⟨g0, g1, g2⟩ := (hd j (by omega)).ext hy
      refine ⟨?_, ?_, ?_⟩
      all_goals
        rw [other _ _ _ _ (by omega), other _ _ _ _ (by omega), other _ _ _ _ (by omega)]; assumption
  · exact (((hx.trans hy).setNew (Nat.le_refl _) _).setNew (Nat.le_refl _) _).setNew (Nat.le_refl _) _
theorem fixInfo : (Tryz.prog.info? 103).map (fun i => (i.zero, i.size, i.bytes)) = some (some (Fx 0 0 0), 3, 24) := by kernel_rfl
theorem Ext.grown {w w' : World} (h : w.grownBy w' none) : Ext w w' := by
  obtain ⟨h1, h2, h3, h4, h5⟩ := h
  exact ⟨h1, h2, h3, h4, fun i hi => h5 i hi (by simp)⟩
theorem madeAt {w' : World} {e : TypeId} {n b g : Nat} {z : Value} (h : w'.ownsRow b e 3 (.slice (some ⟨g, 0, none⟩) n n) n (madeCells z.cells (n * 3)).toList) (j : Nat) (hj : j < n * 3) :
    (∃ v, w'.cell? ⟨g, j, none⟩ = some v) ∧ w'.frozen? ⟨g, j, none⟩ = false := by
  refine ⟨?_, h.frozenAt j⟩
  rw [h.cellAt j hj]
  exact ⟨_, List.getElem?_eq_getElem (by simpa [size_madeCells] using hj)⟩
set_option maxHeartbeats 400000 in
theorem toFixS_any (a : Option Addr) (cap : Nat) (fs : List F3) (w : World) (hf : Fxs w a fs) (hl : fs.length ≤ 1048576) : Calls Tryz.prog 47 #[.slice a fs.length cap] w (NewF w fs) := by
  have HF := Lib.hid hf
  have hm : fs.length ≤ 1000000000 := by omega
  clear hf hl
  obtain ⟨i0, hi, hz0, hz1, hz2⟩ := info_parts fixInfo
  go_enter Tryz.func47, Tryz.ntmps47
  go_wp2_with (at_make; refine wpList_make_full _ rfl _ _ 28 rfl w.heap.size 103 i0 (Fx 0 0 0) 3 Tryz.underlying28 hi hz0 hz1 _ _ _ _ fs.length rfl rfl rfl rfl (by rw [hz2]; omega) (by unfold maxLen; omega) (Nat.le_refl _) ?_; intro w1 hown hgrow)
  have HO := Lib.hid hown
  have HG := Lib.hid (Ext.grown hgrow)
  clear hown hgrow
  go_loopw [4] (fun i wr => RelT w fs i wr) (fun i _ => fs.length - (intOf i).toNat)
  case atStart => exact ⟨0, rfl, Nat.zero_le _, fun j hj => madeAt HO.out j hj, fun j hj => absurd hj (by omega), HG.out⟩
  case round =>
    obtain ⟨k, rfl, hk, hc, hd, hx⟩ := hrel
    have HC := Lib.hid hc
    have HD := Lib.hid hd
    have HX := Lib.hid hx
    clear hc hd hx
    by_cases hk1 : k < fs.length
    · rcases HF.out.2 with h0 | ⟨b, off, rfl, hb⟩
      · rw [h0] at hk1; simp at hk1
      have HB := Lib.hid hb
      clear hb
      obtain ⟨c0, c1, c2⟩ := (HB.out k hk1).ext HX.out
      go_wp2_with fail
      refine (toFix_any _ _ _ _).mono ?_
      rintro e w2 ⟨rfl, hy⟩
      obtain ⟨⟨v0, d0⟩, f0⟩ := HC.out (k * 3) (by omega)
      obtain ⟨⟨v1, d1⟩, f1⟩ := HC.out (k * 3 + 1) (by omega)
      obtain ⟨⟨v2, d2⟩, f2⟩ := HC.out (k * 3 + 2) (by omega)
      replace f0 := hy.thawOf d0 f0
      replace f1 := hy.thawOf d1 f1
      replace f2 := hy.thawOf d2 f2
      replace d0 := hy.cellOf d0
      replace d1 := hy.cellOf d1
      replace d2 := hy.cellOf d2
      have HY := Lib.hid hy
      clear hy c0 c1 c2
      go_wp2
      go_roundw
      case rel => exact RelT.step hk1 HC.out HD.out HX.out HY.out
      case measure => simp [intOf]; omega
    · obtain rfl : k = fs.length := by omega
      go_wp2
      go_ret
      exact ⟨w.heap.size, rfl, Nat.le_refl _, fun j hj => ⟨HD.out j hj, (HC.out _ (by omega)).2, (HC.out _ (by omega)).2, (HC.out _ (by omega)).2⟩, HX.out⟩
def NewT (w : World) (fs : List F3) (e : Ending) (w' : World) : Prop := ∃ B, e = .returned (Tr (.slice (some ⟨B, 0, none⟩) fs.length fs.length)) ∧ w.heap.size ≤ B ∧ Own w' B fs ∧ Ext w w'
theorem Own.ext {w w' : World} {B : Nat} {fs : List F3} (h : Own w B fs) (k : Ext w w') : Own w' B fs :=
  fun i hi => ⟨(h i hi).1.ext k, k.thawOf (h i hi).1.1 (h i hi).2.1, k.thawOf (h i hi).1.2.1 (h i hi).2.2.1, k.thawOf (h i hi).1.2.2 (h i hi).2.2.2⟩
theorem Own.fxs {w : World} {B : Nat} {fs : List F3} (h : Own w B fs) (hl : fs.length ≤ maxLen) : Fxs w (some ⟨B, 0, none⟩) fs :=
  ⟨hl, .inr ⟨B, 0, rfl, fun i hi => by rw [Nat.zero_add]; exact (h i hi).1⟩⟩
theorem Own.away {w w' : World} {B n : Nat} {fs : List F3} (h : Own w B fs) (k : Chg n w w') (hn : B ≠ n) : Own w' B fs :=
  fun i hi => ⟨⟨k.cellOf hn (h i hi).1.1, k.cellOf hn (h i hi).1.2.1, k.cellOf hn (h i hi).1.2.2⟩, k.thawOf hn (h i hi).1.1 (h i hi).2.1, k.thawOf hn (h i hi).1.2.1 (h i hi).2.2.1, k.thawOf hn (h i hi).1.2.2 (h i hi).2.2.2⟩
theorem toTrack_any (a : Option Addr) (cap : Nat) (fs : List F3) (w : World) (hf : Fxs w a fs) (hl : fs.length ≤ 1048576) : Calls Tryz.prog 18 #[Tr (.slice a fs.length cap)] w (NewT w fs) := by
  have HF := Lib.hid hf
  have HL := Lib.hid hl
  clear hf hl
  go_enter Tryz.func18, Tryz.ntmps18
  go_wp2_with fail
  refine (toFixS_any _ _ _ _ (HF.out.ext (by repeat (first | exact Ext.refl _ | assumption | apply Ext.alloc | apply Ext.drew | (refine Ext.trans ?_ (by assumption)) | (refine Ext.setNew ?_ (by simp <;> omega) _)))) HL.out).mono ?_
  rintro e w1 ⟨B, rfl, hB, hO, hx⟩
  have HO := Lib.hid hO
  have HX := Lib.hid hx
  simp at hB
  clear hO
  obtain ⟨hc, hf⟩ := hx.facts; have hz := hx.size; (try simp at hz); (try (have hz0 : w.heap.size < w1.heap.size := by omega)); (try (have hz1 : w.heap.size + 1 < w1.heap.size := by omega)); (try (have hz2 : w.heap.size + 1 + 1 < w1.heap.size := by omega)); (try (have hz3 : w.heap.size + 1 + 1 + 1 < w1.heap.size := by omega))
  clear hx
  go_wp2
  have HB := Lib.hid hB
  clear hB
  have g0 : w1.cell? ⟨w.heap.size + 1, 0, none⟩ = some (.slice none 0 0) := HX.out.cellOf (((Ext.refl _).alloc _).cellOf (boxed 0 rfl (by simp)))
  refine bodyPost_ret (v := Tr (.slice (some ⟨B, 0, none⟩) fs.length fs.length)) (by simp [results, Tryz.results18, go_sem, g0]) rfl ⟨B, rfl, by have := HB.out; omega, ?_, ?_⟩
  · exact (HO.out.away ((Chg.refl _ _).setCell 0 _) (by have := HB.out; omega)).away ((Chg.refl _ _).setCell 0 _) (by have := HB.out; omega)
  · exact ((((((Ext.refl w).alloc _).alloc _).alloc _).trans HX.out).setNew (p := ⟨w.heap.size + 1 + 1, 0, none⟩) (by simp <;> omega) _).setNew (p := ⟨w.heap.size + 1, 0, none⟩) (by simp) _
def RelE (w : World) (n : Nat) (i : Value) (wr : World) : Prop := ∃ k : Nat, i = .int .i64 k ∧ k ≤ n ∧ Ext w wr
theorem eqFix_same (t x y : Int) (w : World) : Calls Tryz.prog 76 #[Fx t x y, Fx t x y] w fun e w' => e = .returned (.bool true) ∧ Ext w w' := by
  have h := eqFix_any t x y t x y w
  rw [show eqF ⟨t, x, y⟩ ⟨t, x, y⟩ = true by simp [eqF]] at h
  exact h
theorem eqFixS_same (a b : Option Addr) (cap cap' : Nat) (fs : List F3) (w : World) (ha : Fxs w a fs) (hb : Fxs w b fs) : Calls Tryz.prog 48 #[.slice a fs.length cap, .slice b fs.length cap'] w fun e w' => e = .returned (.bool true) ∧ Ext w w' := by
  have hm := ha.1
  unfold maxLen at hm
  have HA := Lib.hid ha
  have HB := Lib.hid hb
  clear ha hb
  go_enter Tryz.func48, Tryz.ntmps48
  go_wp2
  go_loopw [5] (fun i wr => RelE w fs.length i wr) (fun i _ => fs.length - (intOf i).toNat)
  case atStart => exact ⟨0, rfl, Nat.zero_le _, Ext.refl _⟩
  case round =>
    obtain ⟨k, rfl, hk, hx⟩ := hrel
    have HX := Lib.hid hx
    clear hx
    by_cases hk1 : k < fs.length
    · rcases HA.out.2 with h0 | ⟨b1, o1, rfl, h1⟩
      · rw [h0] at hk1; simp at hk1
      rcases HB.out.2 with h0 | ⟨b2, o2, rfl, h2⟩
      · rw [h0] at hk1; simp at hk1
      obtain ⟨c0, c1, c2⟩ := (h1 k hk1).ext HX.out
      obtain ⟨d0, d1, d2⟩ := (h2 k hk1).ext HX.out
      clear h1 h2
      have i0 : (0 : Int) ≤ (k : Int) := by omega
      have i1 : (k : Int) < (fs.length : Int) := by omega
      go_wp2_with fail
      go_region_held3 (fun w' => w'.cell? ⟨b1, o1 + k * 3, none⟩ = some (.int .i64 (fx fs k).t) ∧ w'.cell? ⟨b1, o1 + k * 3 + 1, none⟩ = some (.int .i64 (fx fs k).x) ∧ w'.cell? ⟨b1, o1 + k * 3 + 2, none⟩ = some (.int .i64 (fx fs k).y) ∧ w'.cell? ⟨b2, o2 + k * 3, none⟩ = some (.int .i64 (fx fs k).t) ∧ w'.cell? ⟨b2, o2 + k * 3 + 1, none⟩ = some (.int .i64 (fx fs k).x) ∧ w'.cell? ⟨b2, o2 + k * 3 + 2, none⟩ = some (.int .i64 (fx fs k).y))
        (first | go_keep | (go_split_ands; refine ⟨?_, ?_, ?_, ?_, ?_, ?_⟩ <;> exact Ext.cellOf hy (by assumption)))
        (first | (go_at_call 76; refine (eqFix_same _ _ _ _).mono ?_; rintro e w1 ⟨rfl, hy⟩))
      have HX2 := Lib.hid (HX.out.drew.trans hy)
      clear hy c0 c1 c2 d0 d1 d2
      go_wp2
      go_roundw
      case rel => exact ⟨k + 1, by go_num, by omega, HX2.out⟩
      case measure => simp [intOf]; omega
    · obtain rfl : k = fs.length := by omega
      go_wp2
      go_ret
      exact ⟨rfl, HX.out⟩
theorem eqTrack_same (a b : Option Addr) (cap cap' : Nat) (fs : List F3) (w : World) (ha : Fxs w a fs) (hb : Fxs w b fs) : Calls Tryz.prog 20 #[Tr (.slice a fs.length cap), Tr (.slice b fs.length cap')] w fun e w' => e = .returned (.bool true) ∧ Ext w w' := by
  have HA := Lib.hid ha
  have HB := Lib.hid hb
  clear ha hb
  go_enter Tryz.func20, Tryz.ntmps20
  go_wp2_with fail
  refine (eqFixS_same _ _ _ _ _ _ (HA.out.ext (by repeat (first | exact Ext.refl _ | assumption | apply Ext.alloc | apply Ext.drew | (refine Ext.trans ?_ (by assumption)) | (refine Ext.setNew ?_ (by simp <;> omega) _)))) (HB.out.ext (by repeat (first | exact Ext.refl _ | assumption | apply Ext.alloc | apply Ext.drew | (refine Ext.trans ?_ (by assumption)) | (refine Ext.setNew ?_ (by simp <;> omega) _))))).mono ?_
  rintro e w1 ⟨rfl, hx⟩
  go_wp2
  go_ret
  exact ⟨rfl, (by repeat (first | exact Ext.refl _ | assumption | apply Ext.alloc | apply Ext.drew | (refine Ext.trans ?_ (by assumption)) | (refine Ext.setNew ?_ (by simp <;> omega) _)))⟩
end Go.Proofs.YtknelhceaoblhaaGreat.Trk
namespace Go.Proofs.YtknelhceaoblhaaGreat.Seg
open Go.ChangeShapes Go.WideShapes Go.ChangeAt Go.RowKit
open Go.Proofs.YtknelhceaoblhaaGreat.Num Go.Proofs.YtknelhceaoblhaaGreat.Kit Go.Proofs.YtknelhceaoblhaaGreat.Pts
set_option linter.unusedVariables false
abbrev Sg (a b c d : Int) : Value := .agg #[.int .i64 a, .int .i64 b, .int .i64 c, .int .i64 d]
abbrev Co (n : Int) : Prop := -1000000 ≤ n ∧ n ≤ 1000000
def sgB (a b c d : Int) : Bool := ptB a b && (ptB c d && !(a == c && b == d))
theorem sgB_yes {a b c d : Int} (h : sgB a b c d = true) : (Co a ∧ Co b ∧ Co c ∧ Co d) ∧ ¬ (a = c ∧ b = d) := by
  unfold sgB at h
  simp only [Bool.and_eq_true, Bool.not_eq_true', Bool.and_eq_false_iff, beq_eq_false_iff_ne] at h
  obtain ⟨h1, h2, h3⟩ := h
  have p := ptB_yes h1; have q := ptB_yes h2
  refine ⟨⟨p.1, p.2, q.1, q.2⟩, fun h => ?_⟩
  rcases h3 with h3 | h3
  · exact h3 h.1
  · exact h3 h.2
theorem sgValid_any (a b c d : Int) (w : World) : Calls Tryz.prog 124 #[Sg a b c d] w fun e w' => e = .returned (.bool (sgB a b c d)) ∧ Ext w w' := by
  cases h1 : ptB a b
  · have H := Lib.hid (show sgB a b c d = false by unfold sgB; rw [h1]; rfl)
    go_enter Tryz.func124, Tryz.ntmps124
    go_wp2_with (go_at_call 144; refine (isValid_any _ _ _).mono ?_; rintro e w1 ⟨rfl, hx⟩; obtain ⟨hc, hf⟩ := hx.facts; have hz := hx.size; (try simp at hz); (try (have hz0 : w.heap.size < w1.heap.size := by omega)); (try (have hz1 : w.heap.size + 1 < w1.heap.size := by omega)); (try (have hz2 : w.heap.size + 1 + 1 < w1.heap.size := by omega)); (try (have hz3 : w.heap.size + 1 + 1 + 1 < w1.heap.size := by omega)))
    go_ret
    exact ⟨ret_bool H.out, (by repeat (first | exact Ext.refl _ | assumption | apply Ext.alloc | apply Ext.drew | (refine Ext.trans ?_ (by assumption)) | (refine Ext.setNew ?_ (by simp <;> omega) _)))⟩
  cases h2 : ptB c d
  · have H := Lib.hid (show sgB a b c d = false by unfold sgB; rw [h1, h2]; rfl)
    go_enter Tryz.func124, Tryz.ntmps124
    go_wp2_with (go_at_call 144; refine (isValid_any _ _ _).mono ?_; rintro e w1 ⟨rfl, hx⟩; obtain ⟨hc, hf⟩ := hx.facts; have hz := hx.size; (try simp at hz); (try (have hz0 : w.heap.size < w1.heap.size := by omega)); (try (have hz1 : w.heap.size + 1 < w1.heap.size := by omega)); (try (have hz2 : w.heap.size + 1 + 1 < w1.heap.size := by omega)); (try (have hz3 : w.heap.size + 1 + 1 + 1 < w1.heap.size := by omega)))
    go_ret
    exact ⟨ret_bool H.out, (by repeat (first | exact Ext.refl _ | assumption | apply Ext.alloc | apply Ext.drew | (refine Ext.trans ?_ (by assumption)) | (refine Ext.setNew ?_ (by simp <;> omega) _)))⟩
  · have H := Lib.hid (show sgB a b c d = !(a == c && b == d) by unfold sgB; rw [h1, h2]; rfl)
    cases h3 : (a == c)
    · rw [h3] at H
      go_enter Tryz.func124, Tryz.ntmps124
      go_wp2_with (go_at_call 144; refine (isValid_any _ _ _).mono ?_; rintro e w1 ⟨rfl, hx⟩; obtain ⟨hc, hf⟩ := hx.facts; have hz := hx.size; (try simp at hz); (try (have hz0 : w.heap.size < w1.heap.size := by omega)); (try (have hz1 : w.heap.size + 1 < w1.heap.size := by omega)); (try (have hz2 : w.heap.size + 1 + 1 < w1.heap.size := by omega)); (try (have hz3 : w.heap.size + 1 + 1 + 1 < w1.heap.size := by omega)))
      go_ret
      exact ⟨ret_bool H.out, (by repeat (first | exact Ext.refl _ | assumption | apply Ext.alloc | apply Ext.drew | (refine Ext.trans ?_ (by assumption)) | (refine Ext.setNew ?_ (by simp <;> omega) _)))⟩
    · rw [h3] at H
      cases h4 : (b == d)
      · rw [h4] at H
        go_enter Tryz.func124, Tryz.ntmps124
        go_wp2_with (go_at_call 144; refine (isValid_any _ _ _).mono ?_; rintro e w1 ⟨rfl, hx⟩; obtain ⟨hc, hf⟩ := hx.facts; have hz := hx.size; (try simp at hz); (try (have hz0 : w.heap.size < w1.heap.size := by omega)); (try (have hz1 : w.heap.size + 1 < w1.heap.size := by omega)); (try (have hz2 : w.heap.size + 1 + 1 < w1.heap.size := by omega)); (try (have hz3 : w.heap.size + 1 + 1 + 1 < w1.heap.size := by omega)))
        go_ret
        exact ⟨ret_bool H.out, (by repeat (first | exact Ext.refl _ | assumption | apply Ext.alloc | apply Ext.drew | (refine Ext.trans ?_ (by assumption)) | (refine Ext.setNew ?_ (by simp <;> omega) _)))⟩
      · rw [h4] at H
        go_enter Tryz.func124, Tryz.ntmps124
        go_wp2_with (go_at_call 144; refine (isValid_any _ _ _).mono ?_; rintro e w1 ⟨rfl, hx⟩; obtain ⟨hc, hf⟩ := hx.facts; have hz := hx.size; (try simp at hz); (try (have hz0 : w.heap.size < w1.heap.size := by omega)); (try (have hz1 : w.heap.size + 1 < w1.heap.size := by omega)); (try (have hz2 : w.heap.size + 1 + 1 < w1.heap.size := by omega)); (try (have hz3 : w.heap.size + 1 + 1 + 1 < w1.heap.size := by omega)))
        go_ret
        exact ⟨ret_bool H.out, (by repeat (first | exact Ext.refl _ | assumption | apply Ext.alloc | apply Ext.drew | (refine Ext.trans ?_ (by assumption)) | (refine Ext.setNew ?_ (by simp <;> omega) _)))⟩
theorem isSegment_spec (a b c d : Int) (w : World) : Calls Tryz.prog 97 #[Sg a b c d] w fun e w' => e = .returned (.bool (sgB a b c d)) ∧ Ext w w' := by
  cases h1 : ptB a b
  · have H := Lib.hid (show sgB a b c d = false by unfold sgB; rw [h1]; rfl)
    go_enter Tryz.func97, Tryz.ntmps97
    go_wp2_with (go_at_call 77; refine (isPoint_spec _ _ _).mono ?_; rintro e w1 ⟨rfl, hx⟩; obtain ⟨hc, hf⟩ := hx.facts; have hz := hx.size; (try simp at hz); (try (have hz0 : w.heap.size < w1.heap.size := by omega)); (try (have hz1 : w.heap.size + 1 < w1.heap.size := by omega)); (try (have hz2 : w.heap.size + 1 + 1 < w1.heap.size := by omega)); (try (have hz3 : w.heap.size + 1 + 1 + 1 < w1.heap.size := by omega)))
    go_ret
    exact ⟨ret_bool H.out, (by repeat (first | exact Ext.refl _ | assumption | apply Ext.alloc | apply Ext.drew | (refine Ext.trans ?_ (by assumption)) | (refine Ext.setNew ?_ (by simp <;> omega) _)))⟩
  cases h2 : ptB c d
  · have H := Lib.hid (show sgB a b c d = false by unfold sgB; rw [h1, h2]; rfl)
    go_enter Tryz.func97, Tryz.ntmps97
    go_wp2_with (go_at_call 77; refine (isPoint_spec _ _ _).mono ?_; rintro e w1 ⟨rfl, hx⟩; obtain ⟨hc, hf⟩ := hx.facts; have hz := hx.size; (try simp at hz); (try (have hz0 : w.heap.size < w1.heap.size := by omega)); (try (have hz1 : w.heap.size + 1 < w1.heap.size := by omega)); (try (have hz2 : w.heap.size + 1 + 1 < w1.heap.size := by omega)); (try (have hz3 : w.heap.size + 1 + 1 + 1 < w1.heap.size := by omega)))
    go_ret
    exact ⟨ret_bool H.out, (by repeat (first | exact Ext.refl _ | assumption | apply Ext.alloc | apply Ext.drew | (refine Ext.trans ?_ (by assumption)) | (refine Ext.setNew ?_ (by simp <;> omega) _)))⟩
  · have H := Lib.hid (show sgB a b c d = !(a == c && b == d) by unfold sgB; rw [h1, h2]; rfl)
    cases h3 : (a == c)
    · rw [h3] at H
      go_enter Tryz.func97, Tryz.ntmps97
      go_wp2_with (go_at_call 77; refine (isPoint_spec _ _ _).mono ?_; rintro e w1 ⟨rfl, hx⟩; obtain ⟨hc, hf⟩ := hx.facts; have hz := hx.size; (try simp at hz); (try (have hz0 : w.heap.size < w1.heap.size := by omega)); (try (have hz1 : w.heap.size + 1 < w1.heap.size := by omega)); (try (have hz2 : w.heap.size + 1 + 1 < w1.heap.size := by omega)); (try (have hz3 : w.heap.size + 1 + 1 + 1 < w1.heap.size := by omega)))
      go_ret
      exact ⟨ret_bool H.out, (by repeat (first | exact Ext.refl _ | assumption | apply Ext.alloc | apply Ext.drew | (refine Ext.trans ?_ (by assumption)) | (refine Ext.setNew ?_ (by simp <;> omega) _)))⟩
    · rw [h3] at H
      cases h4 : (b == d)
      · rw [h4] at H
        go_enter Tryz.func97, Tryz.ntmps97
        go_wp2_with (go_at_call 77; refine (isPoint_spec _ _ _).mono ?_; rintro e w1 ⟨rfl, hx⟩; obtain ⟨hc, hf⟩ := hx.facts; have hz := hx.size; (try simp at hz); (try (have hz0 : w.heap.size < w1.heap.size := by omega)); (try (have hz1 : w.heap.size + 1 < w1.heap.size := by omega)); (try (have hz2 : w.heap.size + 1 + 1 < w1.heap.size := by omega)); (try (have hz3 : w.heap.size + 1 + 1 + 1 < w1.heap.size := by omega)))
        go_ret
        exact ⟨ret_bool H.out, (by repeat (first | exact Ext.refl _ | assumption | apply Ext.alloc | apply Ext.drew | (refine Ext.trans ?_ (by assumption)) | (refine Ext.setNew ?_ (by simp <;> omega) _)))⟩
      · rw [h4] at H
        go_enter Tryz.func97, Tryz.ntmps97
        go_wp2_with (go_at_call 77; refine (isPoint_spec _ _ _).mono ?_; rintro e w1 ⟨rfl, hx⟩; obtain ⟨hc, hf⟩ := hx.facts; have hz := hx.size; (try simp at hz); (try (have hz0 : w.heap.size < w1.heap.size := by omega)); (try (have hz1 : w.heap.size + 1 < w1.heap.size := by omega)); (try (have hz2 : w.heap.size + 1 + 1 < w1.heap.size := by omega)); (try (have hz3 : w.heap.size + 1 + 1 + 1 < w1.heap.size := by omega)))
        go_ret
        exact ⟨ret_bool H.out, (by repeat (first | exact Ext.refl _ | assumption | apply Ext.alloc | apply Ext.drew | (refine Ext.trans ?_ (by assumption)) | (refine Ext.setNew ?_ (by simp <;> omega) _)))⟩
theorem vector_any (a b c d : Int) (w : World) (ha : Co a) (hb : Co b) (hc : Co c) (hd : Co d) :
    Calls Tryz.prog 160 #[Sg a b c d] w fun e w' => e = .returned (Pt (c - a) (d - b)) ∧ Ext w w' := by
  go_enter Tryz.func160, Tryz.ntmps160
  go_wp2_with fail
  refine (vectorTo_any _ _ _ _ _ ha hb hc hd).mono ?_
  rintro e w1 ⟨rfl, hx⟩
  have B := Lib.hid ((Box.new2 (w := w.alloc (.cells #[.int .i64 a, .int .i64 b, .int .i64 c, .int .i64 d] 144)) (n := w.heap.size + 1) (x := .int .i64 0) (y := .int .i64 0) (t := 113) (by simp)).ext hx)
  obtain ⟨⟨c0, c1⟩, f0, f1⟩ := B.out.two
  go_wp2
  obtain ⟨⟨g0, g1⟩, _, _⟩ := (B.out.set2 (u := .int .i64 (c - a)) (v := .int .i64 (d - b))).two
  exact bodyPost_ret (v := Pt (c - a) (d - b)) (by simp [results, Tryz.results160, go_sem, g0, g1]) rfl ⟨rfl, (by repeat (first | exact Ext.refl _ | assumption | apply Ext.alloc | apply Ext.drew | (refine Ext.trans ?_ (by assumption)) | (refine Ext.setNew ?_ (by simp <;> omega) _)))⟩
def crs (a b c d p q : Int) : Int := (c - a) * (q - b) - (d - b) * (p - a)
theorem turnTo_any (a b c d p q : Int) (w : World) (ha : Co a) (hb : Co b) (hc : Co c) (hd : Co d) (hp : Co p) (hq : Co q) :
    Calls Tryz.prog 188 #[Sg a b c d, Pt p q] w fun e w' => e = .returned (.int .i64 (crs a b c d p q)) ∧ Ext w w' := by
  have H := Lib.hid (show crs a b c d p q = (c - a) * (q - b) - (d - b) * (p - a) from rfl)
  go_enter Tryz.func188, Tryz.ntmps188
  go_wp2_with fail
  go_region_held3 (fun w' => w'.cell? ⟨w.heap.size, 0, none⟩ = some (.int .i64 a) ∧ w'.cell? ⟨w.heap.size, 1, none⟩ = some (.int .i64 b) ∧ w'.cell? ⟨w.heap.size, 2, none⟩ = some (.int .i64 c) ∧ w'.cell? ⟨w.heap.size, 3, none⟩ = some (.int .i64 d) ∧ w'.cell? ⟨w.heap.size + 1, 0, none⟩ = some (.int .i64 p) ∧ w'.cell? ⟨w.heap.size + 1, 1, none⟩ = some (.int .i64 q))
    (first | go_keep | (go_split_ands; refine ⟨?_, ?_, ?_, ?_, ?_, ?_⟩ <;> exact Ext.cellOf hx (by assumption)))
    (first | (go_at_call 160; refine (vector_any _ _ _ _ _ (by omega) (by omega) (by omega) (by omega)).mono ?_; rintro e w1 ⟨rfl, hx⟩) | (go_at_call 180; refine (vectorTo_any _ _ _ _ _ (by omega) (by omega) (by omega) (by omega)).mono ?_; rintro e w1 ⟨rfl, hx⟩) | (go_at_call 206; refine (cross_any _ _ _ _ _ (by omega) (by omega) (by omega) (by omega)).mono ?_; rintro e w1 ⟨rfl, hx⟩))
  all_goals
    go_wp2
    go_ret
    exact ⟨ret_int H.out, (by repeat (first | exact Ext.refl _ | assumption | apply Ext.alloc | apply Ext.drew | (refine Ext.trans ?_ (by assumption)) | (refine Ext.setNew ?_ (by simp <;> omega) _)))⟩
end Go.Proofs.YtknelhceaoblhaaGreat.Seg
namespace Go.Proofs.YtknelhceaoblhaaGreat.Gcd
open Go.ChangeShapes Go.WideShapes Go.ChangeAt Go.RowKit
open Go.Proofs.YtknelhceaoblhaaGreat.Num Go.Proofs.YtknelhceaoblhaaGreat.Kit Go.Proofs.YtknelhceaoblhaaGreat.Pts Go.Proofs.YtknelhceaoblhaaGreat.Seg
set_option linter.unusedVariables false
set_option linter.unusedSimpArgs false
def gc (a b : Int) : Int := (Nat.gcd a.toNat b.toNat : Nat)
theorem gc_zero {a : Int} (h : 0 ≤ a) : gc a 0 = a := by unfold gc; simp; omega
theorem gc_step {a b : Int} (ha : 0 ≤ a) (hb : 0 < b) : gc b (a % b) = gc a b := by
  unfold gc
  have e : (a % b).toNat = a.toNat % b.toNat := by
    rw [Int.toNat_emod ha (by omega)]
  rw [e, Nat.gcd_comm a.toNat b.toNat, Nat.gcd_rec b.toNat a.toNat, Nat.gcd_comm]
theorem gc_pos {a b : Int} (hb : 1 ≤ b) : 1 ≤ gc a b := by
  unfold gc
  have := Nat.gcd_pos_of_pos_right a.toNat (n := b.toNat) (by omega)
  omega
theorem div_bd {a g : Int} (ha : 0 ≤ a) (hg : 1 ≤ g) : 0 ≤ a / g ∧ a / g ≤ a := ⟨Int.ediv_nonneg ha (by omega), Int.ediv_le_self _ ha⟩
def RelG (w : World) (g M : Int) (s t : Value) (wr : World) : Prop := (∃ a b : Int, 0 ≤ a ∧ a ≤ M ∧ 0 ≤ b ∧ b ≤ M ∧ gc a b = g ∧ s = .int .i64 a ∧ t = .int .i64 b) ∧ Ext w wr
theorem commonDivisor_any (a b : Int) (w : World) (ha : 0 ≤ a) (ha2 : a ≤ 1000000000000000000) (hb : 0 ≤ b) (hb2 : b ≤ 1000000000000000000) :
    Calls Tryz.prog 220 #[.int .i64 a, .int .i64 b] w fun e w' => e = .returned (.int .i64 (gc a b)) ∧ Ext w w' := by
  go_enter Tryz.func220, Tryz.ntmps220
  go_wp2
  go_loopw [0, 1] (fun s t wr => RelG w (gc a b) 1000000000000000000 s t wr) (fun s t _ => (intOf t).toNat)
  case atStart => exact ⟨⟨a, b, ha, ha2, hb, hb2, rfl, rfl, rfl⟩, Ext.refl _⟩
  case round =>
    clear ha ha2 hb hb2
    obtain ⟨⟨x, y, x0, x1, y0, y1, hg, rfl, rfl⟩, hx⟩ := hrel
    by_cases hy : y = 0
    · subst hy
      have H := Lib.hid (hg.symm.trans (gc_zero x0))
      clear hg
      go_wp2
      go_ret
      exact ⟨ret_int H.out, hx⟩
    · have hy1 : (y == 0) = false := beq_eq_false_iff_ne.2 hy
      have hyp : 0 < y := by omega
      have m0 := Int.emod_nonneg x hy
      have m1 := Int.emod_lt_of_pos x hyp
      have HG := Lib.hid ((gc_step x0 hyp).trans hg)
      clear hg
      go_wp2_with fail
      go_quiet (fail)
      go_wp2
      go_roundw
      case rel => exact ⟨⟨y, x % y, by omega, by omega, by omega, by omega, HG.out, rfl, rfl⟩, hx.drewN _⟩
      case measure => simp [intOf]; omega
def ab (n : Int) : Int := if n < 0 then -n else n
theorem absolute_any (n : Int) (w : World) (h1 : -1000000000000000000 ≤ n) (h2 : n ≤ 1000000000000000000) :
    Calls Tryz.prog 187 #[.int .i64 n] w fun e w' => e = .returned (.int .i64 (ab n)) ∧ w = w' := by
  by_cases h : n < 0
  · have H := Lib.hid (show ab n = -n from if_pos h)
    go_enter Tryz.func187, Tryz.ntmps187
    go_wp2
    go_ret
    exact ⟨ret_int H.out, rfl⟩
  · have H := Lib.hid (show ab n = n from if_neg h)
    go_enter Tryz.func187, Tryz.ntmps187
    go_wp2
    go_ret
    exact ⟨ret_int H.out, rfl⟩
theorem absS_any (n : Int) (w : World) (h1 : -1000000000000000000 ≤ n) (h2 : n ≤ 1000000000000000000) :
    Calls Tryz.prog 139 #[.int .i64 n] w fun e w' => e = .returned (.int .i64 (ab n)) ∧ w = w' := by
  by_cases h : n < 0
  · have H := Lib.hid (show ab n = -n from if_pos h)
    go_enter Tryz.func139, Tryz.ntmps139
    go_wp2
    go_ret
    exact ⟨ret_int H.out, rfl⟩
  · have H := Lib.hid (show ab n = n from if_neg h)
    go_enter Tryz.func139, Tryz.ntmps139
    go_wp2
    go_ret
    exact ⟨ret_int H.out, rfl⟩
theorem lowestTerms_any (n d : Int) (w : World) (hn : 0 ≤ n) (hn2 : n ≤ 1000000000000000000) (hd : 1 ≤ d) (hd2 : d ≤ 1000000000000000000) :
    Calls Tryz.prog 205 #[.int .i64 n, .int .i64 d] w fun e w' => e = .returned (Pt (n / gc n d) (d / gc n d)) ∧ Ext w w' := by
  have hg := gc_pos (a := n) hd
  obtain ⟨g1, g2⟩ := div_bd hn hg
  obtain ⟨g3, g4⟩ := div_bd (show 0 ≤ d by omega) hg
  go_enter Tryz.func205, Tryz.ntmps205
  go_wp2_with fail
  refine (commonDivisor_any _ _ _ hn hn2 (by omega) hd2).mono ?_
  rintro e w1 ⟨rfl, hx⟩
  have B := Lib.hid ((Box.new2 (w := w) (n := w.heap.size) (x := .int .i64 0) (y := .int .i64 0) (t := 175) rfl).ext hx)
  obtain ⟨⟨c0, c1⟩, f0, f1⟩ := B.out.two
  go_wp2
  go_region
  go_wp2
  obtain ⟨⟨b0, b1⟩, _, _⟩ := ((B.out.set2 (u := .int .i64 (n / gc n d)) (v := .int .i64 (d / gc n d))).drew).two
  exact bodyPost_ret (v := Pt (n / gc n d) (d / gc n d)) (by simp [results, Tryz.results205, go_sem, b0, b1]) rfl ⟨rfl, (by repeat (first | exact Ext.refl _ | assumption | apply Ext.alloc | apply Ext.drew | (refine Ext.trans ?_ (by assumption)) | (refine Ext.setNew ?_ (by simp <;> omega) _)))⟩
end Go.Proofs.YtknelhceaoblhaaGreat.Gcd
namespace Go.Proofs.YtknelhceaoblhaaGreat.Wnd
open Go.ChangeShapes Go.WideShapes Go.ChangeAt Go.RowKit
open Go.Proofs.YtknelhceaoblhaaGreat.Num Go.Proofs.YtknelhceaoblhaaGreat.Kit Go.Proofs.YtknelhceaoblhaaGreat.Pts Go.Proofs.YtknelhceaoblhaaGreat.Seg Go.Proofs.YtknelhceaoblhaaGreat.Gcd
set_option linter.unusedVariables false
set_option linter.unusedSimpArgs false
def hdB (x y : Int) : Bool := inB x (-2000000) 2000000 && (inB y (-2000000) 2000000 && !(x == 0 && y == 0))
theorem hdB_yes {x y : Int} (h : hdB x y = true) : (-2000000 ≤ x ∧ x ≤ 2000000) ∧ (-2000000 ≤ y ∧ y ≤ 2000000) ∧ ¬ (x = 0 ∧ y = 0) := by
  unfold hdB at h
  rw [Bool.and_eq_true, Bool.and_eq_true] at h
  refine ⟨of_inB h.1, of_inB h.2.1, ?_⟩
  rintro ⟨rfl, rfl⟩; simp at h
theorem isHeadingCoord_any (n : Int) (w : World) : Calls Tryz.prog 182 #[.int .i64 n] w fun e w' => e = .returned (.bool (inB n (-2000000) 2000000)) ∧ w = w' := by
  by_cases h1 : -2000000 ≤ n
  · by_cases h2 : n ≤ 2000000
    · have H := Lib.hid (inB_yes h1 h2)
      go_enter Tryz.func182, Tryz.ntmps182
      go_wp2
      go_ret
      exact ⟨ret_bool H.out, rfl⟩
    · have H := Lib.hid (inB_no (n := n) (lo := -2000000) (hi := 2000000) (fun h => h2 h.2))
      go_enter Tryz.func182, Tryz.ntmps182
      go_wp2
      go_ret
      exact ⟨ret_bool H.out, rfl⟩
  · have H := Lib.hid (inB_no (n := n) (lo := -2000000) (hi := 2000000) (fun h => h1 h.1))
    go_enter Tryz.func182, Tryz.ntmps182
    go_wp2
    go_ret
    exact ⟨ret_bool H.out, rfl⟩
theorem isHeading_any (x y : Int) (w : World) : Calls Tryz.prog 163 #[Pt x y] w fun e w' => e = .returned (.bool (hdB x y)) ∧ Ext w w' := by
  cases h1 : inB x (-2000000) 2000000
  · have H := Lib.hid (show hdB x y = false by unfold hdB; rw [h1]; rfl)
    go_enter Tryz.func163, Tryz.ntmps163
    go_wp2_with (go_at_call 182; refine (isHeadingCoord_any _ _).mono ?_; rintro e w1 ⟨rfl, rfl⟩)
    go_ret
    exact ⟨ret_bool H.out, (by repeat (first | exact Ext.refl _ | assumption | apply Ext.alloc | apply Ext.drew | (refine Ext.trans ?_ (by assumption)) | (refine Ext.setNew ?_ (by simp <;> omega) _)))⟩
  cases h2 : inB y (-2000000) 2000000
  · have H := Lib.hid (show hdB x y = false by unfold hdB; rw [h1, h2]; rfl)
    go_enter Tryz.func163, Tryz.ntmps163
    go_wp2_with (go_at_call 182; refine (isHeadingCoord_any _ _).mono ?_; rintro e w1 ⟨rfl, rfl⟩)
    go_ret
    exact ⟨ret_bool H.out, (by repeat (first | exact Ext.refl _ | assumption | apply Ext.alloc | apply Ext.drew | (refine Ext.trans ?_ (by assumption)) | (refine Ext.setNew ?_ (by simp <;> omega) _)))⟩
  cases h3 : (x == 0)
  · have H := Lib.hid (show hdB x y = true by unfold hdB; rw [h1, h2, h3]; rfl)
    go_enter Tryz.func163, Tryz.ntmps163
    go_wp2_with (go_at_call 182; refine (isHeadingCoord_any _ _).mono ?_; rintro e w1 ⟨rfl, rfl⟩)
    go_ret
    exact ⟨ret_bool H.out, (by repeat (first | exact Ext.refl _ | assumption | apply Ext.alloc | apply Ext.drew | (refine Ext.trans ?_ (by assumption)) | (refine Ext.setNew ?_ (by simp <;> omega) _)))⟩
  cases h4 : (y == 0)
  · have H := Lib.hid (show hdB x y = true by unfold hdB; rw [h1, h2, h3, h4]; rfl)
    go_enter Tryz.func163, Tryz.ntmps163
    go_wp2_with (go_at_call 182; refine (isHeadingCoord_any _ _).mono ?_; rintro e w1 ⟨rfl, rfl⟩)
    go_ret
    exact ⟨ret_bool H.out, (by repeat (first | exact Ext.refl _ | assumption | apply Ext.alloc | apply Ext.drew | (refine Ext.trans ?_ (by assumption)) | (refine Ext.setNew ?_ (by simp <;> omega) _)))⟩
  · have H := Lib.hid (show hdB x y = false by unfold hdB; rw [h1, h2, h3, h4]; rfl)
    go_enter Tryz.func163, Tryz.ntmps163
    go_wp2_with (go_at_call 182; refine (isHeadingCoord_any _ _).mono ?_; rintro e w1 ⟨rfl, rfl⟩)
    go_ret
    exact ⟨ret_bool H.out, (by repeat (first | exact Ext.refl _ | assumption | apply Ext.alloc | apply Ext.drew | (refine Ext.trans ?_ (by assumption)) | (refine Ext.setNew ?_ (by simp <;> omega) _)))⟩
theorem headingS_any (x y : Int) (w : World) : Calls Tryz.prog 131 #[Pt x y] w fun e w' => e = .returned (.bool (hdB x y)) ∧ Ext w w' := by
  cases h1 : inB x (-2000000) 2000000
  · have H := Lib.hid (show hdB x y = false by unfold hdB; rw [h1]; rfl)
    go_enter Tryz.func131, Tryz.ntmps131
    go_wp2_with (go_at_call 65; refine (in_any _ _ _ _).mono ?_; rintro e w1 ⟨rfl, rfl⟩)
    go_ret
    exact ⟨ret_bool H.out, (by repeat (first | exact Ext.refl _ | assumption | apply Ext.alloc | apply Ext.drew | (refine Ext.trans ?_ (by assumption)) | (refine Ext.setNew ?_ (by simp <;> omega) _)))⟩
  cases h2 : inB y (-2000000) 2000000
  · have H := Lib.hid (show hdB x y = false by unfold hdB; rw [h1, h2]; rfl)
    go_enter Tryz.func131, Tryz.ntmps131
    go_wp2_with (go_at_call 65; refine (in_any _ _ _ _).mono ?_; rintro e w1 ⟨rfl, rfl⟩)
    go_ret
    exact ⟨ret_bool H.out, (by repeat (first | exact Ext.refl _ | assumption | apply Ext.alloc | apply Ext.drew | (refine Ext.trans ?_ (by assumption)) | (refine Ext.setNew ?_ (by simp <;> omega) _)))⟩
  cases h3 : (x == 0)
  · have H := Lib.hid (show hdB x y = true by unfold hdB; rw [h1, h2, h3]; rfl)
    go_enter Tryz.func131, Tryz.ntmps131
    go_wp2_with (go_at_call 65; refine (in_any _ _ _ _).mono ?_; rintro e w1 ⟨rfl, rfl⟩)
    go_ret
    exact ⟨ret_bool H.out, (by repeat (first | exact Ext.refl _ | assumption | apply Ext.alloc | apply Ext.drew | (refine Ext.trans ?_ (by assumption)) | (refine Ext.setNew ?_ (by simp <;> omega) _)))⟩
  cases h4 : (y == 0)
  · have H := Lib.hid (show hdB x y = true by unfold hdB; rw [h1, h2, h3, h4]; rfl)
    go_enter Tryz.func131, Tryz.ntmps131
    go_wp2_with (go_at_call 65; refine (in_any _ _ _ _).mono ?_; rintro e w1 ⟨rfl, rfl⟩)
    go_ret
    exact ⟨ret_bool H.out, (by repeat (first | exact Ext.refl _ | assumption | apply Ext.alloc | apply Ext.drew | (refine Ext.trans ?_ (by assumption)) | (refine Ext.setNew ?_ (by simp <;> omega) _)))⟩
  · have H := Lib.hid (show hdB x y = false by unfold hdB; rw [h1, h2, h3, h4]; rfl)
    go_enter Tryz.func131, Tryz.ntmps131
    go_wp2_with (go_at_call 65; refine (in_any _ _ _ _).mono ?_; rintro e w1 ⟨rfl, rfl⟩)
    go_ret
    exact ⟨ret_bool H.out, (by repeat (first | exact Ext.refl _ | assumption | apply Ext.alloc | apply Ext.drew | (refine Ext.trans ?_ (by assumption)) | (refine Ext.setNew ?_ (by simp <;> omega) _)))⟩
end Go.Proofs.YtknelhceaoblhaaGreat.Wnd
