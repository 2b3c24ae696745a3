import Derived.Test.YtmlojndkpnhalaaGreatNum
import Derived.Test.YtmlojndkpnhalaaGreatMKit
import Derived.Deep.RegionHeld3
import Derived.Deep.LoopGhost
import Derived.Deep.QuietTactic
import Derived.BigQuiet
import Derived.RegionTactic
import Derived.BigRegion
import Derived.OwnWalk
import Derived.Laws.OwnMore
namespace Go.Proofs.YtmlojndkpnhalaaGreat.Pts
open Go.ChangeShapes Go.WideShapes Go.ChangeAt Go.RowKit
open Go.Proofs.YtmlojndkpnhalaaGreat.Num Go.Proofs.YtmlojndkpnhalaaGreat.Kit
set_option linter.unusedVariables false
abbrev Pt (x y : Int) : Value := .agg #[.int .i64 x, .int .i64 y]
def coB (n : Int) : Bool := inB n (-1000000) 1000000
def ptB (x y : Int) : Bool := coB x && coB y
theorem ptB_yes {x y : Int} (h : ptB x y = true) : (-1000000 ≤ x ∧ x ≤ 1000000) ∧ -1000000 ≤ y ∧ y ≤ 1000000 := by
  unfold ptB coB at h; rw [Bool.and_eq_true] at h; exact ⟨of_inB h.1, of_inB h.2⟩
theorem isCoord_any (n : Int) (w : World) : Calls Tryz.prog 223 #[.int .i64 n] w fun e w' => e = .returned (.bool (coB n)) ∧ w = w' := by
  by_cases h1 : -1000000 ≤ n
  · by_cases h2 : n ≤ 1000000
    · have H := Lib.hid (show coB n = true from inB_yes h1 h2)
      go_enter Tryz.func223, Tryz.ntmps223
      go_wp2
      go_ret
      exact ⟨ret_bool H.out, rfl⟩
    · have H := Lib.hid (show coB n = false from inB_no (fun h => h2 h.2))
      go_enter Tryz.func223, Tryz.ntmps223
      go_wp2
      go_ret
      exact ⟨ret_bool H.out, rfl⟩
  · have H := Lib.hid (show coB n = false from inB_no (fun h => h1 h.1))
    go_enter Tryz.func223, Tryz.ntmps223
    go_wp2
    go_ret
    exact ⟨ret_bool H.out, rfl⟩
theorem isValid_any (x y : Int) (w : World) : Calls Tryz.prog 168 #[Pt x y] w fun e w' => e = .returned (.bool (ptB x y)) ∧ Ext w w' := by
  cases hx : coB x
  · have H := Lib.hid (show ptB x y = false by unfold ptB; rw [hx]; rfl)
    go_enter Tryz.func168, Tryz.ntmps168
    go_wp2_with (go_at_call 223; refine (isCoord_any _ _).mono ?_; rintro e w' ⟨rfl, rfl⟩)
    go_ret
    exact ⟨ret_bool H.out, (by repeat (first | exact Ext.refl _ | assumption | apply Ext.alloc | apply Ext.drew | (refine Ext.trans ?_ (by assumption)) | (refine Ext.setNew ?_ (by simp <;> omega) _)))⟩
  · have H := Lib.hid (show ptB x y = coB y by unfold ptB; rw [hx]; rfl)
    go_enter Tryz.func168, Tryz.ntmps168
    go_wp2_with (go_at_call 223; refine (isCoord_any _ _).mono ?_; rintro e w' ⟨rfl, rfl⟩)
    go_ret
    exact ⟨ret_bool H.out, (by repeat (first | exact Ext.refl _ | assumption | apply Ext.alloc | apply Ext.drew | (refine Ext.trans ?_ (by assumption)) | (refine Ext.setNew ?_ (by simp <;> omega) _)))⟩
theorem isPoint_spec (x y : Int) (w : World) : Calls Tryz.prog 134 #[Pt x y] w fun e w' => e = .returned (.bool (ptB x y)) ∧ Ext w w' := by
  cases hx : inB x (-1000000) 1000000
  · have H := Lib.hid (show ptB x y = false by unfold ptB coB; rw [hx]; rfl)
    go_enter Tryz.func134, Tryz.ntmps134
    go_wp2_with (go_at_call 82; refine (in_any _ _ _ _).mono ?_; rintro e w' ⟨rfl, rfl⟩)
    go_ret
    exact ⟨ret_bool H.out, (by repeat (first | exact Ext.refl _ | assumption | apply Ext.alloc | apply Ext.drew | (refine Ext.trans ?_ (by assumption)) | (refine Ext.setNew ?_ (by simp <;> omega) _)))⟩
  · have H := Lib.hid (show ptB x y = inB y (-1000000) 1000000 by unfold ptB coB; rw [hx]; rfl)
    go_enter Tryz.func134, Tryz.ntmps134
    go_wp2_with (go_at_call 82; refine (in_any _ _ _ _).mono ?_; rintro e w' ⟨rfl, rfl⟩)
    go_ret
    exact ⟨ret_bool H.out, (by repeat (first | exact Ext.refl _ | assumption | apply Ext.alloc | apply Ext.drew | (refine Ext.trans ?_ (by assumption)) | (refine Ext.setNew ?_ (by simp <;> omega) _)))⟩
theorem vectorTo_any (x y u v : Int) (w : World) (hx : -1000000 ≤ x ∧ x ≤ 1000000) (hy : -1000000 ≤ y ∧ y ≤ 1000000) (hu : -1000000 ≤ u ∧ u ≤ 1000000) (hv : -1000000 ≤ v ∧ v ≤ 1000000) :
    Calls Tryz.prog 243 #[Pt x y, Pt u v] w fun e w' => e = .returned (Pt (u - x) (v - y)) ∧ Ext w w' := by
  go_enter Tryz.func243, Tryz.ntmps243
  go_wp2
  exact bodyPost_ret (v := Pt (u - x) (v - y)) (by simp [results, Tryz.results243, go_sem]) rfl ⟨rfl, (by repeat (first | exact Ext.refl _ | assumption | apply Ext.alloc | apply Ext.drew | (refine Ext.trans ?_ (by assumption)) | (refine Ext.setNew ?_ (by simp <;> omega) _)))⟩
theorem mul_bd {x y : Int} (A B : Int) (hx : -A ≤ x ∧ x ≤ A) (hy : -B ≤ y ∧ y ≤ B) : -(A * B) ≤ x * y ∧ x * y ≤ A * B := by
  have hA : 0 ≤ A := by omega
  have hB : 0 ≤ B := by omega
  have h : (x * y).natAbs ≤ A.natAbs * B.natAbs := by
    rw [Int.natAbs_mul]; exact Nat.mul_le_mul (by omega) (by omega)
  have h2 : ((A.natAbs * B.natAbs : Nat) : Int) = A * B := by
    rw [Int.natCast_mul, Int.natAbs_of_nonneg hA, Int.natAbs_of_nonneg hB]
  omega
theorem dotI_any (x y u v : Int) (w : World) (hx : -2000000 ≤ x ∧ x ≤ 2000000) (hy : -2000000 ≤ y ∧ y ≤ 2000000) (hu : -2000000 ≤ u ∧ u ≤ 2000000) (hv : -2000000 ≤ v ∧ v ≤ 2000000) :
    Calls Tryz.prog 301 #[Pt x y, Pt u v] w fun e w' => e = .returned (.int .i64 (x * u + y * v)) ∧ Ext w w' := by
  obtain ⟨a1, a2⟩ := mul_bd 2000000 2000000 hx hu
  obtain ⟨b1, b2⟩ := mul_bd 2000000 2000000 hy hv
  simp only [Int.reduceMul, Int.reduceNeg] at a1 a2 b1 b2
  go_enter Tryz.func301, Tryz.ntmps301
  go_wp2
  go_ret
  exact ⟨rfl, (by repeat (first | exact Ext.refl _ | assumption | apply Ext.alloc | apply Ext.drew | (refine Ext.trans ?_ (by assumption)) | (refine Ext.setNew ?_ (by simp <;> omega) _)))⟩
theorem squareLength_any (x y : Int) (w : World) (hx : -2000000 ≤ x ∧ x ≤ 2000000) (hy : -2000000 ≤ y ∧ y ≤ 2000000) :
    Calls Tryz.prog 261 #[Pt x y] w fun e w' => e = .returned (.int .i64 (x * x + y * y)) ∧ Ext w w' := by
  go_enter Tryz.func261, Tryz.ntmps261
  go_wp2_with (go_at_call 301; refine (dotI_any _ _ _ _ _ (by omega) (by omega) (by omega) (by omega)).mono ?_; rintro e w1 ⟨rfl, hx⟩)
  go_ret
  exact ⟨rfl, (by repeat (first | exact Ext.refl _ | assumption | apply Ext.alloc | apply Ext.drew | (refine Ext.trans ?_ (by assumption)) | (refine Ext.setNew ?_ (by simp <;> omega) _)))⟩
theorem cross_any (x y u v : Int) (w : World) (hx : -2000000 ≤ x ∧ x ≤ 2000000) (hy : -2000000 ≤ y ∧ y ≤ 2000000) (hu : -2000000 ≤ u ∧ u ≤ 2000000) (hv : -2000000 ≤ v ∧ v ≤ 2000000) :
    Calls Tryz.prog 302 #[Pt x y, Pt u v] w fun e w' => e = .returned (.int .i64 (x * v - y * u)) ∧ Ext w w' := by
  obtain ⟨a1, a2⟩ := mul_bd 2000000 2000000 hx hv
  obtain ⟨b1, b2⟩ := mul_bd 2000000 2000000 hy hu
  simp only [Int.reduceMul, Int.reduceNeg] at a1 a2 b1 b2
  go_enter Tryz.func302, Tryz.ntmps302
  go_wp2
  go_ret
  exact ⟨rfl, (by repeat (first | exact Ext.refl _ | assumption | apply Ext.alloc | apply Ext.drew | (refine Ext.trans ?_ (by assumption)) | (refine Ext.setNew ?_ (by simp <;> omega) _)))⟩
def sgn (n : Int) : Int := if n < 0 then -1 else if 0 < n then 1 else 0
theorem signOf_any (n : Int) (w : World) : Calls Tryz.prog 293 #[.int .i64 n] w fun e w' => e = .returned (.int .i64 (sgn n)) ∧ w = w' := by
  by_cases h1 : n < 0
  · have H := Lib.hid (show sgn n = -1 by unfold sgn; rw [if_pos h1])
    go_enter Tryz.func293, Tryz.ntmps293
    go_wp2
    go_ret
    exact ⟨ret_int H.out, rfl⟩
  · by_cases h2 : 0 < n
    · have H := Lib.hid (show sgn n = 1 by unfold sgn; rw [if_neg h1, if_pos h2])
      go_enter Tryz.func293, Tryz.ntmps293
      go_wp2
      go_ret
      exact ⟨ret_int H.out, rfl⟩
    · have H := Lib.hid (show sgn n = 0 by unfold sgn; rw [if_neg h1, if_neg h2])
      go_enter Tryz.func293, Tryz.ntmps293
      go_wp2
      go_ret
      exact ⟨ret_int H.out, rfl⟩
def trn (x y u v a b : Int) : Int := sgn ((u - x) * (b - y) - (v - y) * (a - x))
theorem minus_any (x y u v : Int) (w : World) (hx : -1000000 ≤ x ∧ x ≤ 1000000) (hy : -1000000 ≤ y ∧ y ≤ 1000000) (hu : -1000000 ≤ u ∧ u ≤ 1000000) (hv : -1000000 ≤ v ∧ v ≤ 1000000) :
    Calls Tryz.prog 131 #[Pt x y, Pt u v] w fun e w' => e = .returned (Pt (x - u) (y - v)) ∧ Ext w w' := by
  go_enter Tryz.func131, Tryz.ntmps131
  go_wp2
  exact bodyPost_ret (v := Pt (x - u) (y - v)) (by simp [results, Tryz.results131, go_sem]) rfl ⟨rfl, (by repeat (first | exact Ext.refl _ | assumption | apply Ext.alloc | apply Ext.drew | (refine Ext.trans ?_ (by assumption)) | (refine Ext.setNew ?_ (by simp <;> omega) _)))⟩
theorem dot_any (x y u v : Int) (w : World) (hx : -2000000 ≤ x ∧ x ≤ 2000000) (hy : -2000000 ≤ y ∧ y ≤ 2000000) (hu : -2000000 ≤ u ∧ u ≤ 2000000) (hv : -2000000 ≤ v ∧ v ≤ 2000000) :
    Calls Tryz.prog 133 #[Pt x y, Pt u v] w fun e w' => e = .returned (.int .i64 (x * u + y * v)) ∧ Ext w w' := by
  obtain ⟨a1, a2⟩ := mul_bd 2000000 2000000 hx hu
  obtain ⟨b1, b2⟩ := mul_bd 2000000 2000000 hy hv
  simp only [Int.reduceMul, Int.reduceNeg] at a1 a2 b1 b2
  go_enter Tryz.func133, Tryz.ntmps133
  go_wp2
  go_ret
  exact ⟨rfl, (by repeat (first | exact Ext.refl _ | assumption | apply Ext.alloc | apply Ext.drew | (refine Ext.trans ?_ (by assumption)) | (refine Ext.setNew ?_ (by simp <;> omega) _)))⟩
theorem crossS_any (x y u v : Int) (w : World) (hx : -2000000 ≤ x ∧ x ≤ 2000000) (hy : -2000000 ≤ y ∧ y ≤ 2000000) (hu : -2000000 ≤ u ∧ u ≤ 2000000) (hv : -2000000 ≤ v ∧ v ≤ 2000000) :
    Calls Tryz.prog 215 #[Pt x y, Pt u v] w fun e w' => e = .returned (.int .i64 (x * v - y * u)) ∧ Ext w w' := by
  obtain ⟨a1, a2⟩ := mul_bd 2000000 2000000 hx hv
  obtain ⟨b1, b2⟩ := mul_bd 2000000 2000000 hy hu
  simp only [Int.reduceMul, Int.reduceNeg] at a1 a2 b1 b2
  go_enter Tryz.func215, Tryz.ntmps215
  go_wp2
  go_ret
  exact ⟨rfl, (by repeat (first | exact Ext.refl _ | assumption | apply Ext.alloc | apply Ext.drew | (refine Ext.trans ?_ (by assumption)) | (refine Ext.setNew ?_ (by simp <;> omega) _)))⟩
theorem sign_any (n : Int) (w : World) : Calls Tryz.prog 214 #[.int .i64 n] w fun e w' => e = .returned (.int .i64 (sgn n)) ∧ w = w' := by
  by_cases h1 : n < 0
  · have H := Lib.hid (show sgn n = -1 by unfold sgn; rw [if_pos h1])
    go_enter Tryz.func214, Tryz.ntmps214
    go_wp2
    go_ret
    exact ⟨ret_int H.out, rfl⟩
  · by_cases h2 : 0 < n
    · have H := Lib.hid (show sgn n = 1 by unfold sgn; rw [if_neg h1, if_pos h2])
      go_enter Tryz.func214, Tryz.ntmps214
      go_wp2
      go_ret
      exact ⟨ret_int H.out, rfl⟩
    · have H := Lib.hid (show sgn n = 0 by unfold sgn; rw [if_neg h1, if_neg h2])
      go_enter Tryz.func214, Tryz.ntmps214
      go_wp2
      go_ret
      exact ⟨ret_int H.out, rfl⟩
theorem turn_any (x y u v a b : Int) (w : World) (hx : -1000000 ≤ x ∧ x ≤ 1000000) (hy : -1000000 ≤ y ∧ y ≤ 1000000) (hu : -1000000 ≤ u ∧ u ≤ 1000000) (hv : -1000000 ≤ v ∧ v ≤ 1000000) (ha : -1000000 ≤ a ∧ a ≤ 1000000) (hb : -1000000 ≤ b ∧ b ≤ 1000000) :
    Calls Tryz.prog 285 #[Pt x y, Pt u v, Pt a b] w fun e w' => e = .returned (.int .i64 (trn x y u v a b)) ∧ Ext w w' := by
  go_enter Tryz.func285, Tryz.ntmps285
  go_wp2_with fail
  obtain ⟨c1, c2, c3, c4, c5, c6⟩ := boxes3 w 25 x y u v a b
  go_region_held3 (fun w' => w'.cell? ⟨w.heap.size, 0, none⟩ = some (.int .i64 x) ∧ w'.cell? ⟨w.heap.size, 1, none⟩ = some (.int .i64 y) ∧ w'.cell? ⟨w.heap.size + 1, 0, none⟩ = some (.int .i64 u) ∧ w'.cell? ⟨w.heap.size + 1, 1, none⟩ = some (.int .i64 v) ∧ w'.cell? ⟨w.heap.size + 1 + 1, 0, none⟩ = some (.int .i64 a) ∧ w'.cell? ⟨w.heap.size + 1 + 1, 1, none⟩ = some (.int .i64 b))
    (first | exact ⟨c1, c2, c3, c4, c5, c6⟩ | (go_split_ands; refine ⟨?_, ?_, ?_, ?_, ?_, ?_⟩ <;> first | assumption | exact Ext.cellOf hx (by assumption)))
    (first | (go_at_call 131; refine (minus_any _ _ _ _ _ (by omega) (by omega) (by omega) (by omega)).mono ?_; rintro e w1 ⟨rfl, hx⟩) | (go_at_call 215; refine (crossS_any _ _ _ _ _ (by omega) (by omega) (by omega) (by omega)).mono ?_; rintro e w1 ⟨rfl, hx⟩) | (go_at_call 214; refine (sign_any _ _).mono ?_; rintro e w1 ⟨rfl, rfl⟩))
  all_goals
    go_wp2
    go_ret
    exact ⟨ret_int rfl, (by repeat (first | exact Ext.refl _ | assumption | apply Ext.alloc | apply Ext.drew | (refine Ext.trans ?_ (by assumption)) | (refine Ext.setNew ?_ (by simp <;> omega) _)))⟩
end Go.Proofs.YtmlojndkpnhalaaGreat.Pts
namespace Go.Proofs.YtmlojndkpnhalaaGreat.Seg
open Go.ChangeShapes Go.WideShapes Go.ChangeAt Go.RowKit
open Go.Proofs.YtmlojndkpnhalaaGreat.Num Go.Proofs.YtmlojndkpnhalaaGreat.Kit Go.Proofs.YtmlojndkpnhalaaGreat.Pts
set_option linter.unusedVariables false
abbrev Sg (a b c d : Int) : Value := .agg #[.int .i64 a, .int .i64 b, .int .i64 c, .int .i64 d]
abbrev Co (n : Int) : Prop := -1000000 ≤ n ∧ n ≤ 1000000
def sgB (a b c d : Int) : Bool := ptB a b && (ptB c d && !(a == c && b == d))
theorem sgB_yes {a b c d : Int} (h : sgB a b c d = true) : (Co a ∧ Co b ∧ Co c ∧ Co d) ∧ ¬ (a = c ∧ b = d) := by
  unfold sgB at h
  simp only [Bool.and_eq_true, Bool.not_eq_true', Bool.and_eq_false_iff, beq_eq_false_iff_ne] at h
  obtain ⟨h1, h2, h3⟩ := h
  have p := ptB_yes h1; have q := ptB_yes h2
  refine ⟨⟨p.1, p.2, q.1, q.2⟩, fun h => ?_⟩
  rcases h3 with h3 | h3
  · exact h3 h.1
  · exact h3 h.2
theorem sgValid_any (a b c d : Int) (w : World) : Calls Tryz.prog 196 #[Sg a b c d] w fun e w' => e = .returned (.bool (sgB a b c d)) ∧ Ext w w' := by
  cases h1 : ptB a b
  · have H := Lib.hid (show sgB a b c d = false by unfold sgB; rw [h1]; rfl)
    go_enter Tryz.func196, Tryz.ntmps196
    go_wp2_with (go_at_call 168; refine (isValid_any _ _ _).mono ?_; rintro e w1 ⟨rfl, hx⟩; obtain ⟨hc, hf⟩ := hx.facts; have hz := hx.size; (try simp at hz); (try (have hz0 : w.heap.size < w1.heap.size := by omega)); (try (have hz1 : w.heap.size + 1 < w1.heap.size := by omega)); (try (have hz2 : w.heap.size + 1 + 1 < w1.heap.size := by omega)); (try (have hz3 : w.heap.size + 1 + 1 + 1 < w1.heap.size := by omega)))
    go_ret
    exact ⟨ret_bool H.out, (by repeat (first | exact Ext.refl _ | assumption | apply Ext.alloc | apply Ext.drew | (refine Ext.trans ?_ (by assumption)) | (refine Ext.setNew ?_ (by simp <;> omega) _)))⟩
  cases h2 : ptB c d
  · have H := Lib.hid (show sgB a b c d = false by unfold sgB; rw [h1, h2]; rfl)
    go_enter Tryz.func196, Tryz.ntmps196
    go_wp2_with (go_at_call 168; refine (isValid_any _ _ _).mono ?_; rintro e w1 ⟨rfl, hx⟩; obtain ⟨hc, hf⟩ := hx.facts; have hz := hx.size; (try simp at hz); (try (have hz0 : w.heap.size < w1.heap.size := by omega)); (try (have hz1 : w.heap.size + 1 < w1.heap.size := by omega)); (try (have hz2 : w.heap.size + 1 + 1 < w1.heap.size := by omega)); (try (have hz3 : w.heap.size + 1 + 1 + 1 < w1.heap.size := by omega)))
    go_ret
    exact ⟨ret_bool H.out, (by repeat (first | exact Ext.refl _ | assumption | apply Ext.alloc | apply Ext.drew | (refine Ext.trans ?_ (by assumption)) | (refine Ext.setNew ?_ (by simp <;> omega) _)))⟩
  · have H := Lib.hid (show sgB a b c d = !(a == c && b == d) by unfold sgB; rw [h1, h2]; rfl)
    cases h3 : (a == c)
    · rw [h3] at H
      go_enter Tryz.func196, Tryz.ntmps196
      go_wp2_with (go_at_call 168; refine (isValid_any _ _ _).mono ?_; rintro e w1 ⟨rfl, hx⟩; obtain ⟨hc, hf⟩ := hx.facts; have hz := hx.size; (try simp at hz); (try (have hz0 : w.heap.size < w1.heap.size := by omega)); (try (have hz1 : w.heap.size + 1 < w1.heap.size := by omega)); (try (have hz2 : w.heap.size + 1 + 1 < w1.heap.size := by omega)); (try (have hz3 : w.heap.size + 1 + 1 + 1 < w1.heap.size := by omega)))
      go_ret
      exact ⟨ret_bool H.out, (by repeat (first | exact Ext.refl _ | assumption | apply Ext.alloc | apply Ext.drew | (refine Ext.trans ?_ (by assumption)) | (refine Ext.setNew ?_ (by simp <;> omega) _)))⟩
    · rw [h3] at H
      cases h4 : (b == d)
      · rw [h4] at H
        go_enter Tryz.func196, Tryz.ntmps196
        go_wp2_with (go_at_call 168; refine (isValid_any _ _ _).mono ?_; rintro e w1 ⟨rfl, hx⟩; obtain ⟨hc, hf⟩ := hx.facts; have hz := hx.size; (try simp at hz); (try (have hz0 : w.heap.size < w1.heap.size := by omega)); (try (have hz1 : w.heap.size + 1 < w1.heap.size := by omega)); (try (have hz2 : w.heap.size + 1 + 1 < w1.heap.size := by omega)); (try (have hz3 : w.heap.size + 1 + 1 + 1 < w1.heap.size := by omega)))
        go_ret
        exact ⟨ret_bool H.out, (by repeat (first | exact Ext.refl _ | assumption | apply Ext.alloc | apply Ext.drew | (refine Ext.trans ?_ (by assumption)) | (refine Ext.setNew ?_ (by simp <;> omega) _)))⟩
      · rw [h4] at H
        go_enter Tryz.func196, Tryz.ntmps196
        go_wp2_with (go_at_call 168; refine (isValid_any _ _ _).mono ?_; rintro e w1 ⟨rfl, hx⟩; obtain ⟨hc, hf⟩ := hx.facts; have hz := hx.size; (try simp at hz); (try (have hz0 : w.heap.size < w1.heap.size := by omega)); (try (have hz1 : w.heap.size + 1 < w1.heap.size := by omega)); (try (have hz2 : w.heap.size + 1 + 1 < w1.heap.size := by omega)); (try (have hz3 : w.heap.size + 1 + 1 + 1 < w1.heap.size := by omega)))
        go_ret
        exact ⟨ret_bool H.out, (by repeat (first | exact Ext.refl _ | assumption | apply Ext.alloc | apply Ext.drew | (refine Ext.trans ?_ (by assumption)) | (refine Ext.setNew ?_ (by simp <;> omega) _)))⟩
theorem vector_any (a b c d : Int) (w : World) (ha : Co a) (hb : Co b) (hc : Co c) (hd : Co d) :
    Calls Tryz.prog 194 #[Sg a b c d] w fun e w' => e = .returned (Pt (c - a) (d - b)) ∧ Ext w w' := by
  go_enter Tryz.func194, Tryz.ntmps194
  go_wp2_with fail
  refine (vectorTo_any _ _ _ _ _ ha hb hc hd).mono ?_
  rintro e w1 ⟨rfl, hx⟩
  have B := Lib.hid ((Box.new2 (w := w.alloc (.cells #[.int .i64 a, .int .i64 b, .int .i64 c, .int .i64 d] 225)) (n := w.heap.size + 1) (x := .int .i64 0) (y := .int .i64 0) (t := 25) (by simp)).ext hx)
  obtain ⟨⟨c0, c1⟩, f0, f1⟩ := B.out.two
  go_wp2
  obtain ⟨⟨g0, g1⟩, _, _⟩ := (B.out.set2 (u := .int .i64 (c - a)) (v := .int .i64 (d - b))).two
  exact bodyPost_ret (v := Pt (c - a) (d - b)) (by simp [results, Tryz.results194, go_sem, g0, g1]) rfl ⟨rfl, (by repeat (first | exact Ext.refl _ | assumption | apply Ext.alloc | apply Ext.drew | (refine Ext.trans ?_ (by assumption)) | (refine Ext.setNew ?_ (by simp <;> omega) _)))⟩
def crs (a b c d p q : Int) : Int := (c - a) * (q - b) - (d - b) * (p - a)
theorem turnTo_any (a b c d p q : Int) (w : World) (ha : Co a) (hb : Co b) (hc : Co c) (hd : Co d) (hp : Co p) (hq : Co q) :
    Calls Tryz.prog 263 #[Sg a b c d, Pt p q] w fun e w' => e = .returned (.int .i64 (crs a b c d p q)) ∧ Ext w w' := by
  have H := Lib.hid (show crs a b c d p q = (c - a) * (q - b) - (d - b) * (p - a) from rfl)
  go_enter Tryz.func263, Tryz.ntmps263
  go_wp2_with fail
  go_region_held3 (fun w' => w'.cell? ⟨w.heap.size, 0, none⟩ = some (.int .i64 a) ∧ w'.cell? ⟨w.heap.size, 1, none⟩ = some (.int .i64 b) ∧ w'.cell? ⟨w.heap.size, 2, none⟩ = some (.int .i64 c) ∧ w'.cell? ⟨w.heap.size, 3, none⟩ = some (.int .i64 d) ∧ w'.cell? ⟨w.heap.size + 1, 0, none⟩ = some (.int .i64 p) ∧ w'.cell? ⟨w.heap.size + 1, 1, none⟩ = some (.int .i64 q))
    (first | go_keep | (go_split_ands; refine ⟨?_, ?_, ?_, ?_, ?_, ?_⟩ <;> exact Ext.cellOf hx (by assumption)))
    (first | (go_at_call 194; refine (vector_any _ _ _ _ _ (by omega) (by omega) (by omega) (by omega)).mono ?_; rintro e w1 ⟨rfl, hx⟩) | (go_at_call 243; refine (vectorTo_any _ _ _ _ _ (by omega) (by omega) (by omega) (by omega)).mono ?_; rintro e w1 ⟨rfl, hx⟩) | (go_at_call 302; refine (cross_any _ _ _ _ _ (by omega) (by omega) (by omega) (by omega)).mono ?_; rintro e w1 ⟨rfl, hx⟩))
  all_goals
    go_wp2
    go_ret
    exact ⟨ret_int H.out, (by repeat (first | exact Ext.refl _ | assumption | apply Ext.alloc | apply Ext.drew | (refine Ext.trans ?_ (by assumption)) | (refine Ext.setNew ?_ (by simp <;> omega) _)))⟩
end Go.Proofs.YtmlojndkpnhalaaGreat.Seg
namespace Go.Proofs.YtmlojndkpnhalaaGreat.Crs
open Go.ChangeShapes Go.WideShapes Go.ChangeAt Go.RowKit
open Go.Proofs.YtmlojndkpnhalaaGreat.Num Go.Proofs.YtmlojndkpnhalaaGreat.Kit Go.Proofs.YtmlojndkpnhalaaGreat.Pts Go.Proofs.YtmlojndkpnhalaaGreat.Seg
set_option linter.unusedVariables false
theorem lineValid_any (a b c d : Int) (w : World) : Calls Tryz.prog 122 #[Sg a b c d] w fun e w' => e = .returned (.bool (sgB a b c d)) ∧ Ext w w' := by
  go_enter Tryz.func122, Tryz.ntmps122
  go_wp2_with (go_at_call 196; refine (sgValid_any _ _ _ _ _).mono ?_; rintro e w1 ⟨rfl, hx⟩)
  go_ret
  exact ⟨rfl, (by repeat (first | exact Ext.refl _ | assumption | apply Ext.alloc | apply Ext.drew | (refine Ext.trans ?_ (by assumption)) | (refine Ext.setNew ?_ (by simp <;> omega) _)))⟩
theorem isLine_spec (a b c d : Int) (w : World) : Calls Tryz.prog 140 #[Sg a b c d] w fun e w' => e = .returned (.bool (sgB a b c d)) ∧ Ext w w' := by
  cases h1 : ptB a b
  · have H := Lib.hid (show sgB a b c d = false by unfold sgB; rw [h1]; rfl)
    go_enter Tryz.func140, Tryz.ntmps140
    go_wp2_with (go_at_call 134; refine (isPoint_spec _ _ _).mono ?_; rintro e w1 ⟨rfl, hx⟩; obtain ⟨hc, hf⟩ := hx.facts; have hz := hx.size; (try simp at hz); (try (have hz0 : w.heap.size < w1.heap.size := by omega)); (try (have hz1 : w.heap.size + 1 < w1.heap.size := by omega)); (try (have hz2 : w.heap.size + 1 + 1 < w1.heap.size := by omega)); (try (have hz3 : w.heap.size + 1 + 1 + 1 < w1.heap.size := by omega)))
    go_ret
    exact ⟨ret_bool H.out, (by repeat (first | exact Ext.refl _ | assumption | apply Ext.alloc | apply Ext.drew | (refine Ext.trans ?_ (by assumption)) | (refine Ext.setNew ?_ (by simp <;> omega) _)))⟩
  cases h2 : ptB c d
  · have H := Lib.hid (show sgB a b c d = false by unfold sgB; rw [h1, h2]; rfl)
    go_enter Tryz.func140, Tryz.ntmps140
    go_wp2_with (go_at_call 134; refine (isPoint_spec _ _ _).mono ?_; rintro e w1 ⟨rfl, hx⟩; obtain ⟨hc, hf⟩ := hx.facts; have hz := hx.size; (try simp at hz); (try (have hz0 : w.heap.size < w1.heap.size := by omega)); (try (have hz1 : w.heap.size + 1 < w1.heap.size := by omega)); (try (have hz2 : w.heap.size + 1 + 1 < w1.heap.size := by omega)); (try (have hz3 : w.heap.size + 1 + 1 + 1 < w1.heap.size := by omega)))
    go_ret
    exact ⟨ret_bool H.out, (by repeat (first | exact Ext.refl _ | assumption | apply Ext.alloc | apply Ext.drew | (refine Ext.trans ?_ (by assumption)) | (refine Ext.setNew ?_ (by simp <;> omega) _)))⟩
  · have H := Lib.hid (show sgB a b c d = !(a == c && b == d) by unfold sgB; rw [h1, h2]; rfl)
    cases h3 : (a == c)
    · rw [h3] at H
      go_enter Tryz.func140, Tryz.ntmps140
      go_wp2_with (go_at_call 134; refine (isPoint_spec _ _ _).mono ?_; rintro e w1 ⟨rfl, hx⟩; obtain ⟨hc, hf⟩ := hx.facts; have hz := hx.size; (try simp at hz); (try (have hz0 : w.heap.size < w1.heap.size := by omega)); (try (have hz1 : w.heap.size + 1 < w1.heap.size := by omega)); (try (have hz2 : w.heap.size + 1 + 1 < w1.heap.size := by omega)); (try (have hz3 : w.heap.size + 1 + 1 + 1 < w1.heap.size := by omega)))
      go_ret
      exact ⟨ret_bool H.out, (by repeat (first | exact Ext.refl _ | assumption | apply Ext.alloc | apply Ext.drew | (refine Ext.trans ?_ (by assumption)) | (refine Ext.setNew ?_ (by simp <;> omega) _)))⟩
    · rw [h3] at H
      cases h4 : (b == d)
      · rw [h4] at H
        go_enter Tryz.func140, Tryz.ntmps140
        go_wp2_with (go_at_call 134; refine (isPoint_spec _ _ _).mono ?_; rintro e w1 ⟨rfl, hx⟩; obtain ⟨hc, hf⟩ := hx.facts; have hz := hx.size; (try simp at hz); (try (have hz0 : w.heap.size < w1.heap.size := by omega)); (try (have hz1 : w.heap.size + 1 < w1.heap.size := by omega)); (try (have hz2 : w.heap.size + 1 + 1 < w1.heap.size := by omega)); (try (have hz3 : w.heap.size + 1 + 1 + 1 < w1.heap.size := by omega)))
        go_ret
        exact ⟨ret_bool H.out, (by repeat (first | exact Ext.refl _ | assumption | apply Ext.alloc | apply Ext.drew | (refine Ext.trans ?_ (by assumption)) | (refine Ext.setNew ?_ (by simp <;> omega) _)))⟩
      · rw [h4] at H
        go_enter Tryz.func140, Tryz.ntmps140
        go_wp2_with (go_at_call 134; refine (isPoint_spec _ _ _).mono ?_; rintro e w1 ⟨rfl, hx⟩; obtain ⟨hc, hf⟩ := hx.facts; have hz := hx.size; (try simp at hz); (try (have hz0 : w.heap.size < w1.heap.size := by omega)); (try (have hz1 : w.heap.size + 1 < w1.heap.size := by omega)); (try (have hz2 : w.heap.size + 1 + 1 < w1.heap.size := by omega)); (try (have hz3 : w.heap.size + 1 + 1 + 1 < w1.heap.size := by omega)))
        go_ret
        exact ⟨ret_bool H.out, (by repeat (first | exact Ext.refl _ | assumption | apply Ext.alloc | apply Ext.drew | (refine Ext.trans ?_ (by assumption)) | (refine Ext.setNew ?_ (by simp <;> omega) _)))⟩
theorem before_spec (a b c d p q : Int) (w : World) (ha : Co a) (hb : Co b) (hc : Co c) (hd : Co d) (hp : Co p) (hq : Co q) :
    Calls Tryz.prog 314 #[Sg a b c d, Pt p q] w fun e w' => e = .returned (.int .i64 (trn a b c d p q)) ∧ Ext w w' := by
  go_enter Tryz.func314, Tryz.ntmps314
  go_wp2_with (go_at_call 285; refine (turn_any _ _ _ _ _ _ _ ha hb hc hd hp hq).mono ?_; rintro e w1 ⟨rfl, hx⟩)
  go_ret
  exact ⟨rfl, (by repeat (first | exact Ext.refl _ | assumption | apply Ext.alloc | apply Ext.drew | (refine Ext.trans ?_ (by assumption)) | (refine Ext.setNew ?_ (by simp <;> omega) _)))⟩
end Go.Proofs.YtmlojndkpnhalaaGreat.Crs
namespace Go.Proofs.YtmlojndkpnhalaaGreat.Gcd
open Go.ChangeShapes Go.WideShapes Go.ChangeAt Go.RowKit
open Go.Proofs.YtmlojndkpnhalaaGreat.Num Go.Proofs.YtmlojndkpnhalaaGreat.Kit Go.Proofs.YtmlojndkpnhalaaGreat.Pts Go.Proofs.YtmlojndkpnhalaaGreat.Seg
set_option linter.unusedVariables false
set_option linter.unusedSimpArgs false
def gc (a b : Int) : Int := (Nat.gcd a.toNat b.toNat : Nat)
theorem gc_zero {a : Int} (h : 0 ≤ a) : gc a 0 = a := by unfold gc; simp; omega
theorem gc_step {a b : Int} (ha : 0 ≤ a) (hb : 0 < b) : gc b (a % b) = gc a b := by
  unfold gc
  have e : (a % b).toNat = a.toNat % b.toNat := by
    rw [Int.toNat_emod ha (by omega)]
  rw [e, Nat.gcd_comm a.toNat b.toNat, Nat.gcd_rec b.toNat a.toNat, Nat.gcd_comm]
theorem gc_pos {a b : Int} (hb : 1 ≤ b) : 1 ≤ gc a b := by
  unfold gc
  have := Nat.gcd_pos_of_pos_right a.toNat (n := b.toNat) (by omega)
  omega
theorem div_bd {a g : Int} (ha : 0 ≤ a) (hg : 1 ≤ g) : 0 ≤ a / g ∧ a / g ≤ a := ⟨Int.ediv_nonneg ha (by omega), Int.ediv_le_self _ ha⟩
def RelG (w : World) (g M : Int) (s t : Value) (wr : World) : Prop := (∃ a b : Int, 0 ≤ a ∧ a ≤ M ∧ 0 ≤ b ∧ b ≤ M ∧ gc a b = g ∧ s = .int .i64 a ∧ t = .int .i64 b) ∧ Ext w wr
theorem commonDivisor_any (a b : Int) (w : World) (ha : 0 ≤ a) (ha2 : a ≤ 1000000000000000000) (hb : 0 ≤ b) (hb2 : b ≤ 1000000000000000000) :
    Calls Tryz.prog 318 #[.int .i64 a, .int .i64 b] w fun e w' => e = .returned (.int .i64 (gc a b)) ∧ Ext w w' := by
  go_enter Tryz.func318, Tryz.ntmps318
  go_wp2
  go_loopw [0, 1] (fun s t wr => RelG w (gc a b) 1000000000000000000 s t wr) (fun s t _ => (intOf t).toNat)
  case atStart => exact ⟨⟨a, b, ha, ha2, hb, hb2, rfl, rfl, rfl⟩, Ext.refl _⟩
  case round =>
    clear ha ha2 hb hb2
    obtain ⟨⟨x, y, x0, x1, y0, y1, hg, rfl, rfl⟩, hx⟩ := hrel
    by_cases hy : y = 0
    · subst hy
      have H := Lib.hid (hg.symm.trans (gc_zero x0))
      clear hg
      go_wp2
      go_ret
      exact ⟨ret_int H.out, hx⟩
    · have hy1 : (y == 0) = false := beq_eq_false_iff_ne.2 hy
      have hyp : 0 < y := by omega
      have m0 := Int.emod_nonneg x hy
      have m1 := Int.emod_lt_of_pos x hyp
      have HG := Lib.hid ((gc_step x0 hyp).trans hg)
      clear hg
      go_wp2_with fail
      go_quiet (fail)
      go_wp2
      go_roundw
      case rel => exact ⟨⟨y, x % y, by omega, by omega, by omega, by omega, HG.out, rfl, rfl⟩, hx.drewN _⟩
      case measure => simp [intOf]; omega
theorem gcdS_any (a b : Int) (w : World) (ha : 0 ≤ a) (ha2 : a ≤ 1000000000000000000) (hb : 0 ≤ b) (hb2 : b ≤ 1000000000000000000) :
    Calls Tryz.prog 315 #[.int .i64 a, .int .i64 b] w fun e w' => e = .returned (.int .i64 (gc a b)) ∧ Ext w w' := by
  go_enter Tryz.func315, Tryz.ntmps315
  go_wp2
  go_loopw [0, 1] (fun s t wr => RelG w (gc a b) 1000000000000000000 s t wr) (fun s t _ => (intOf t).toNat)
  case atStart => exact ⟨⟨a, b, ha, ha2, hb, hb2, rfl, rfl, rfl⟩, Ext.refl _⟩
  case round =>
    clear ha ha2 hb hb2
    obtain ⟨⟨x, y, x0, x1, y0, y1, hg, rfl, rfl⟩, hx⟩ := hrel
    by_cases hy : y = 0
    · subst hy
      have H := Lib.hid (hg.symm.trans (gc_zero x0))
      clear hg
      go_wp2
      go_ret
      exact ⟨ret_int H.out, hx⟩
    · have hyp : 0 < y := by omega
      have m0 := Int.emod_nonneg x hy
      have m1 := Int.emod_lt_of_pos x hyp
      have HG := Lib.hid ((gc_step x0 hyp).trans hg)
      clear hg hy
      go_wp2
      go_roundw
      case rel => exact ⟨⟨y, x % y, by omega, by omega, by omega, by omega, HG.out, rfl, rfl⟩, hx⟩
      case measure => simp [intOf]; omega
def ab (n : Int) : Int := if n < 0 then -n else n
theorem absolute_any (n : Int) (w : World) (h1 : -1000000000000000000 ≤ n) (h2 : n ≤ 1000000000000000000) :
    Calls Tryz.prog 162 #[.int .i64 n] w fun e w' => e = .returned (.int .i64 (ab n)) ∧ w = w' := by
  by_cases h : n < 0
  · have H := Lib.hid (show ab n = -n from if_pos h)
    go_enter Tryz.func162, Tryz.ntmps162
    go_wp2
    go_ret
    exact ⟨ret_int H.out, rfl⟩
  · have H := Lib.hid (show ab n = n from if_neg h)
    go_enter Tryz.func162, Tryz.ntmps162
    go_wp2
    go_ret
    exact ⟨ret_int H.out, rfl⟩
theorem absS_any (n : Int) (w : World) (h1 : -1000000000000000000 ≤ n) (h2 : n ≤ 1000000000000000000) :
    Calls Tryz.prog 259 #[.int .i64 n] w fun e w' => e = .returned (.int .i64 (ab n)) ∧ w = w' := by
  by_cases h : n < 0
  · have H := Lib.hid (show ab n = -n from if_pos h)
    go_enter Tryz.func259, Tryz.ntmps259
    go_wp2
    go_ret
    exact ⟨ret_int H.out, rfl⟩
  · have H := Lib.hid (show ab n = n from if_neg h)
    go_enter Tryz.func259, Tryz.ntmps259
    go_wp2
    go_ret
    exact ⟨ret_int H.out, rfl⟩
theorem lowestTerms_any (n d : Int) (w : World) (hn : 0 ≤ n) (hn2 : n ≤ 1000000000000000000) (hd : 1 ≤ d) (hd2 : d ≤ 1000000000000000000) :
    Calls Tryz.prog 294 #[.int .i64 n, .int .i64 d] w fun e w' => e = .returned (Pt (n / gc n d) (d / gc n d)) ∧ Ext w w' := by
  have hg := gc_pos (a := n) hd
  obtain ⟨g1, g2⟩ := div_bd hn hg
  obtain ⟨g3, g4⟩ := div_bd (show 0 ≤ d by omega) hg
  go_enter Tryz.func294, Tryz.ntmps294
  go_wp2_with fail
  refine (commonDivisor_any _ _ _ hn hn2 (by omega) hd2).mono ?_
  rintro e w1 ⟨rfl, hx⟩
  have B := Lib.hid ((Box.new2 (w := w) (n := w.heap.size) (x := .int .i64 0) (y := .int .i64 0) (t := 186) rfl).ext hx)
  obtain ⟨⟨c0, c1⟩, f0, f1⟩ := B.out.two
  go_wp2
  go_region
  go_wp2
  obtain ⟨⟨b0, b1⟩, _, _⟩ := ((B.out.set2 (u := .int .i64 (n / gc n d)) (v := .int .i64 (d / gc n d))).drew).two
  exact bodyPost_ret (v := Pt (n / gc n d) (d / gc n d)) (by simp [results, Tryz.results294, go_sem, b0, b1]) rfl ⟨rfl, (by repeat (first | exact Ext.refl _ | assumption | apply Ext.alloc | apply Ext.drew | (refine Ext.trans ?_ (by assumption)) | (refine Ext.setNew ?_ (by simp <;> omega) _)))⟩
theorem ratioS_any (n d : Int) (w : World) (hn : 0 ≤ n) (hn2 : n ≤ 1000000000000000000) (hd : 1 ≤ d) (hd2 : d ≤ 1000000000000000000) :
    Calls Tryz.prog 286 #[.int .i64 n, .int .i64 d] w fun e w' => e = .returned (Pt (n / gc n d) (d / gc n d)) ∧ Ext w w' := by
  have hg := gc_pos (a := n) hd
  obtain ⟨g1, g2⟩ := div_bd hn hg
  obtain ⟨g3, g4⟩ := div_bd (show 0 ≤ d by omega) hg
  have ha : ab n = n := if_neg (by omega)
  go_enter Tryz.func286, Tryz.ntmps286
  go_wp2_with fail
  refine (absS_any _ _ (by omega) (by omega)).mono ?_
  rintro e w1 ⟨rfl, rfl⟩
  rw [ha]
  go_wp2_with fail
  refine (gcdS_any _ _ _ hn hn2 (by omega) hd2).mono ?_
  rintro e w1 ⟨rfl, hx⟩
  have B := Lib.hid ((Box.new2 (w := w) (n := w.heap.size) (x := .int .i64 0) (y := .int .i64 0) (t := 186) rfl).ext hx)
  obtain ⟨⟨c0, c1⟩, f0, f1⟩ := B.out.two
  go_wp2
  go_region
  go_wp2
  obtain ⟨⟨b0, b1⟩, _, _⟩ := ((B.out.set2 (u := .int .i64 (n / gc n d)) (v := .int .i64 (d / gc n d))).drew).two
  exact bodyPost_ret (v := Pt (n / gc n d) (d / gc n d)) (by simp [results, Tryz.results286, go_sem, b0, b1]) rfl ⟨rfl, (by repeat (first | exact Ext.refl _ | assumption | apply Ext.alloc | apply Ext.drew | (refine Ext.trans ?_ (by assumption)) | (refine Ext.setNew ?_ (by simp <;> omega) _)))⟩
end Go.Proofs.YtmlojndkpnhalaaGreat.Gcd
namespace Go.Proofs.YtmlojndkpnhalaaGreat.Trk
open Go.ChangeShapes Go.WideShapes Go.ChangeAt Go.RowKit
open Go.Proofs.YtmlojndkpnhalaaGreat.Num Go.Proofs.YtmlojndkpnhalaaGreat.Kit Go.Proofs.YtmlojndkpnhalaaGreat.Pts
set_option linter.unusedVariables false
set_option linter.unusedSimpArgs false
structure F3 where
  t : Int
  x : Int
  y : Int
deriving DecidableEq
abbrev Fx (t x y : Int) : Value := .agg #[.int .i64 t, .int .i64 x, .int .i64 y]
abbrev Tr (s : Value) : Value := .agg #[s]
def fx (fs : List F3) (i : Nat) : F3 := fs.getD i ⟨0, 0, 0⟩
def At (w : World) (b o : Nat) (f : F3) : Prop := w.cell? ⟨b, o, none⟩ = some (.int .i64 f.t) ∧ w.cell? ⟨b, o + 1, none⟩ = some (.int .i64 f.x) ∧ w.cell? ⟨b, o + 2, none⟩ = some (.int .i64 f.y)
theorem At.ext {w w' : World} {b o : Nat} {f : F3} (h : At w b o f) (k : Ext w w') : At w' b o f := ⟨k.cellOf h.1, k.cellOf h.2.1, k.cellOf h.2.2⟩
def Fxs (w : World) (a : Option Addr) (fs : List F3) : Prop :=
  fs.length ≤ maxLen ∧ (fs = [] ∨ ∃ b off, a = some ⟨b, off, none⟩ ∧ ∀ i, i < fs.length → At w b (off + i * 3) (fx fs i))
theorem Fxs.ext {w w' : World} {a : Option Addr} {fs : List F3} (h : Fxs w a fs) (k : Ext w w') : Fxs w' a fs := by
  refine ⟨h.1, ?_⟩
  rcases h.2 with h | ⟨b, off, ha, h⟩
  · exact .inl h
  · exact .inr ⟨b, off, ha, fun i hi => (h i hi).ext k⟩
def Own (w : World) (B : Nat) (fs : List F3) : Prop := ∀ i, i < fs.length → At w B (i * 3) (fx fs i) ∧ w.frozen? ⟨B, i * 3, none⟩ = false ∧ w.frozen? ⟨B, i * 3 + 1, none⟩ = false ∧ w.frozen? ⟨B, i * 3 + 2, none⟩ = false
def RelT (w : World) (fs : List F3) (i : Value) (wr : World) : Prop :=
  ∃ k : Nat, i = .int .i64 k ∧ k ≤ fs.length ∧ (∀ j, j < fs.length * 3 → (∃ v, wr.cell? ⟨w.heap.size, j, none⟩ = some v) ∧ wr.frozen? ⟨w.heap.size, j, none⟩ = false) ∧ (∀ j, j < k → At wr w.heap.size (j * 3) (fx fs j)) ∧ Ext w wr
theorem RelT.step {w wr w2 : World} {fs : List F3} {k : Nat} (hk : k < fs.length) (hc : ∀ j, j < fs.length * 3 → (∃ v, wr.cell? ⟨w.heap.size, j, none⟩ = some v) ∧ wr.frozen? ⟨w.heap.size, j, none⟩ = false)
    (hd : ∀ j, j < k → At wr w.heap.size (j * 3) (fx fs j)) (hx : Ext w wr) (hy : Ext wr w2) :
    RelT w fs (.int .i64 (k + 1)) (((w2.setCell ⟨w.heap.size, k * 3, none⟩ (.int .i64 (fx fs k).t)).setCell ⟨w.heap.size, k * 3 + 1, none⟩ (.int .i64 (fx fs k).x)).setCell ⟨w.heap.size, k * 3 + 2, none⟩ (.int .i64 (fx fs k).y)) := by
  obtain ⟨⟨v0, d0⟩, f0⟩ := hc (k * 3) (by omega)
  obtain ⟨⟨v1, d1⟩, f1⟩ := hc (k * 3 + 1) (by omega)
  obtain ⟨⟨v2, d2⟩, f2⟩ := hc (k * 3 + 2) (by omega)
  have other : ∀ (W : World) (p q : Nat) (u : Value), p ≠ q → (W.setCell ⟨w.heap.size, p, none⟩ u).cell? ⟨w.heap.size, q, none⟩ = W.cell? ⟨w.heap.size, q, none⟩ := fun W p q u h => World.cell?_setCell_other _ _ _ _ (by simp <;> omega)
  refine ⟨k + 1, by go_num, by omega, fun j hj => ?_, fun j hj => ?_, ?_⟩
  · obtain ⟨⟨v, hv⟩, hf⟩ := hc j hj
    refine ⟨?_, by simp only [World.frozen?_setCell]; exact hy.thawOf hv hf⟩
    by_cases h2 : k * 3 + 2 = j
    · subst h2; exact ⟨_, World.cell?_setCell_same _ _ _ (by rw [other _ _ _ _ (by omega), other _ _ _ _ (by omega)]; exact hy.cellOf d2)⟩
    · rw [other _ _ _ _ h2]
      by_cases h1 : k * 3 + 1 = j
      · subst h1; exact ⟨_, World.cell?_setCell_same _ _ _ (by rw [other _ _ _ _ (by omega)]; exact hy.cellOf d1)⟩
      · rw [other _ _ _ _ h1]
        by_cases h0 : k * 3 = j
        · subst h0; exact ⟨_, World.cell?_setCell_same _ _ _ (hy.cellOf d0)⟩
        · rw [other _ _ _ _ h0]; exact ⟨_, hy.cellOf hv⟩
  · by_cases h : j = k
    · subst h
      refine ⟨?_, ?_, ?_⟩
      · rw [other _ _ _ _ (by omega), other _ _ _ _ (by omega)]; exact World.cell?_setCell_same _ _ _ (hy.cellOf d0)
      · rw [other _ _ _ _ (by omega)]; exact World.cell?_setCell_same _ _ _ (by rw [other _ _ _ _ (by omega)]; exact hy.cellOf d1)
      · exact World.cell?_setCell_same _ _ _ (by rw [other _ _ _ _ (by omega), other _ _ _ _ (by omega)]; exact hy.cellOf d2)
    · obtain ⟨g0, g1, g2⟩ := (hd j (by omega)).ext hy
      refine ⟨?_, ?_, ?_⟩
      all_goals
        rw [other _ _ _ _ (by omega), other _ _ _ _ (by omega), other _ _ _ _ (by omega)]; assumption
  · exact (((hx.trans hy).setNew (Nat.le_refl _) _).setNew (Nat.le_refl _) _).setNew (Nat.le_refl _) _
theorem fixInfo : (Tryz.prog.info? 53).map (fun i => (i.zero, i.size, i.bytes)) = some (some (Fx 0 0 0), 3, 24) := by kernel_rfl
theorem Ext.grown {w w' : World} (h : w.grownBy w' none) : Ext w w' := by
  obtain ⟨h1, h2, h3, h4, h5⟩ := h
  exact ⟨h1, h2, h3, h4, fun i hi => h5 i hi (by simp)⟩
theorem Own.ext {w w' : World} {B : Nat} {fs : List F3} (h : Own w B fs) (k : Ext w w') : Own w' B fs :=
  fun i hi => ⟨(h i hi).1.ext k, k.thawOf (h i hi).1.1 (h i hi).2.1, k.thawOf (h i hi).1.2.1 (h i hi).2.2.1, k.thawOf (h i hi).1.2.2 (h i hi).2.2.2⟩
theorem Own.fxs {w : World} {B : Nat} {fs : List F3} (h : Own w B fs) (hl : fs.length ≤ maxLen) : Fxs w (some ⟨B, 0, none⟩) fs :=
  ⟨hl, .inr ⟨B, 0, rfl, fun i hi => by rw [Nat.zero_add]; exact (h i hi).1⟩⟩
theorem Own.away {w w' : World} {B n : Nat} {fs : List F3} (h : Own w B fs) (k : Chg n w w') (hn : B ≠ n) : Own w' B fs :=
  fun i hi => ⟨⟨k.cellOf hn (h i hi).1.1, k.cellOf hn (h i hi).1.2.1, k.cellOf hn (h i hi).1.2.2⟩, k.thawOf hn (h i hi).1.1 (h i hi).2.1, k.thawOf hn (h i hi).1.2.1 (h i hi).2.2.1, k.thawOf hn (h i hi).1.2.2 (h i hi).2.2.2⟩
def RelE (w : World) (n : Nat) (i : Value) (wr : World) : Prop := ∃ k : Nat, i = .int .i64 k ∧ k ≤ n ∧ Ext w wr
end Go.Proofs.YtmlojndkpnhalaaGreat.Trk
namespace Go.Proofs.YtmlojndkpnhalaaGreat.Trk
open Go.ChangeShapes Go.WideShapes Go.ChangeAt Go.RowKit
open Go.Proofs.YtmlojndkpnhalaaGreat.Num Go.Proofs.YtmlojndkpnhalaaGreat.Kit Go.Proofs.YtmlojndkpnhalaaGreat.Pts
set_option linter.unusedVariables false
set_option linter.unusedSimpArgs false
def cellsF (fs : List F3) : List Value := fs.flatMap fun f => [.int .i64 f.t, .int .i64 f.x, .int .i64 f.y]
theorem cellsF_len : ∀ fs : List F3, (cellsF fs).length = fs.length * 3
  | [] => rfl
  | f :: fs => by
    have := cellsF_len fs
    simp only [cellsF, List.flatMap_cons, List.length_append, List.length_cons, List.length_nil] at this ⊢
    omega
theorem cellsF_app (fs : List F3) (f : F3) : cellsF fs ++ [.int .i64 f.t, .int .i64 f.x, .int .i64 f.y] = cellsF (fs ++ [f]) := by simp [cellsF]
theorem cellsF_get : ∀ (fs : List F3) (i : Nat), i < fs.length → (cellsF fs)[i * 3]? = some (.int .i64 (fx fs i).t) ∧ (cellsF fs)[i * 3 + 1]? = some (.int .i64 (fx fs i).x) ∧ (cellsF fs)[i * 3 + 2]? = some (.int .i64 (fx fs i).y)
  | [], i, h => absurd h (by simp)
  | f :: fs, 0, _ => by simp [cellsF, fx]
  | f :: fs, i + 1, h => by
    have := cellsF_get fs i (by simpa using h)
    have e : cellsF (f :: fs) = .int .i64 f.t :: .int .i64 f.x :: .int .i64 f.y :: cellsF fs := by simp [cellsF]
    rw [e, show (i + 1) * 3 = i * 3 + 3 by omega]
    simpa [fx] using this
theorem cellsF_one : ∀ (fs : List F3) (u : Value), u ∈ cellsF fs → u.oneCell' = true := by
  intro fs u hu
  simp only [cellsF, List.mem_flatMap] at hu
  obtain ⟨f, _, hu⟩ := hu
  simp at hu
  rcases hu with rfl | rfl | rfl <;> rfl
def OwnF (w : World) (base : Nat) (v : Value) (fs : List F3) : Prop := w.ownsRow base 53 3 v fs.length (cellsF fs)
theorem OwnF.fxs {w : World} {base : Nat} {v : Value} {fs : List F3} (h : OwnF w base v fs) : ∃ a cap, v = .slice a fs.length cap ∧ fs.length ≤ cap ∧ Fxs w a fs ∧ (fs = [] ∨ ∃ g, a = some ⟨g, 0, none⟩ ∧ base ≤ g ∧ Own w g fs) := by
  have h0 := h
  rcases h.2 with ⟨hv, hn⟩ | ⟨g, cap, cur, hv, hb, hg, hc, hm, hs, ht⟩
  · have e : fs = [] := List.length_eq_zero_iff.1 hn
    subst e
    exact ⟨none, 0, hv, Nat.le_refl _, ⟨by simp [maxLen], .inl rfl⟩, .inl rfl⟩
  · rw [hv] at h0
    have hO : Own w g fs := fun i hi => by
      obtain ⟨c0, c1, c2⟩ := cellsF_get fs i hi
      exact ⟨⟨by rw [h0.cellAt (i * 3) (by omega)]; exact c0, by rw [h0.cellAt (i * 3 + 1) (by omega)]; exact c1, by rw [h0.cellAt (i * 3 + 2) (by omega)]; exact c2⟩, h0.frozenAt _, h0.frozenAt _, h0.frozenAt _⟩
    exact ⟨some ⟨g, 0, none⟩, cap, hv, hc, hO.fxs (by omega), .inr ⟨g, rfl, hb, hO⟩⟩
theorem OwnF.nil (w : World) (base : Nat) : OwnF w base (.slice none 0 0) [] := World.ownsRow_nil w base _ 3
theorem OwnF.chg {w w' : World} {base B : Nat} {v : Value} {fs : List F3} (h : OwnF w base v fs) (k : Chg B w w') (hB : v.ownBlock ≠ some B) : OwnF w' base v fs :=
  World.ownsRow.kept h (row := some B) ⟨k.os, k.tape, k.output, k.size, fun i hi hne => k.block i hi (fun e => hne (by rw [e]))⟩ (.inr hB)
theorem OwnF.ext {w w' : World} {base : Nat} {v : Value} {fs : List F3} (h : OwnF w base v fs) (k : Ext w w') : OwnF w' base v fs := by
  refine World.ownsRow.kept h (row := none) ⟨Below.os k, Below.tape k, Below.output k, Below.size k, fun i hi _ => Below.block k i hi⟩ ?_
  cases v.ownBlock with
  | none => exact .inl rfl
  | some g => exact .inr (by simp)
theorem OwnF.block {w : World} {base : Nat} {v : Value} {fs : List F3} (h : OwnF w base v fs) {B : Nat} (hB : B < base) : v.ownBlock ≠ some B := fun e => by have := (World.ownsRow.lt h B e).1; omega
theorem grown_chg {w w' : World} {base : Nat} {v : Value} {fs : List F3} {B : Nat} {w0 : World} (h : OwnF w base v fs) (hg : w.grownBy w' v.ownBlock) (hb : w0.heap.size ≤ base) (hc : Chg B w0 w) : Chg B w0 w' :=
  ⟨hg.os.trans hc.os, hg.tape.trans hc.tape, hg.output.trans hc.output, Nat.le_trans hc.size hg.size, fun k hk hkB => (hg.block k (Nat.lt_of_lt_of_le hk hc.size) (fun e => by have := (World.ownsRow.lt h k e.symm).1; omega)).trans (hc.block k hk hkB)⟩
theorem grown_ext {w w' : World} {base : Nat} {v : Value} {fs : List F3} {w0 : World} (h : OwnF w base v fs) (hg : w.grownBy w' v.ownBlock) (hb : w0.heap.size ≤ base) (hc : Ext w0 w) : Ext w0 w' :=
  ⟨hg.os.trans (Below.os hc), hg.tape.trans (Below.tape hc), hg.output.trans (Below.output hc), Nat.le_trans (Below.size hc) hg.size, fun k hk => (hg.block k (Nat.lt_of_lt_of_le hk (Below.size hc)) (fun e => by have := (World.ownsRow.lt h k e.symm).1; omega)).trans (Below.block hc k hk)⟩
theorem grown_box {w w' : World} {base : Nat} {v : Value} {fs : List F3} {n : Nat} {vs : List Value} (h : OwnF w base v fs) (hg : w.grownBy w' v.ownBlock) (hn : v.ownBlock ≠ some n) (hbx : Box w n vs) : Box w' n vs := by
  intro i u hu
  obtain ⟨c, f⟩ := hbx i u hu
  have hl := World.block_lt_of_cell? w _ c
  have e := hg.block n hl (fun e => hn e.symm)
  exact ⟨by rw [World.cell?_of_block (w := w) (a := ⟨n, i, none⟩) e]; exact c, by rw [World.frozen?_of_block (w := w) (a := ⟨n, i, none⟩) e]; exact f⟩
theorem OwnF.mono {w : World} {base b2 : Nat} {v : Value} {fs : List F3} (h : OwnF w base v fs) (hb : b2 ≤ base) : OwnF w b2 v fs := by
  refine ⟨h.1, ?_⟩
  rcases h.2 with h1 | ⟨g, cap, cur, hv, hg, r⟩
  · exact .inl h1
  · exact .inr ⟨g, cap, cur, hv, by omega, r⟩
theorem OwnF.snoc {w : World} {base : Nat} {v : Value} {fs : List F3} {t x y : Int} (h : w.ownsRow base 53 3 v (fs.length + 1) (cellsF fs ++ [.int .i64 t, .int .i64 x, .int .i64 y])) : OwnF w base v (fs ++ [⟨t, x, y⟩]) := by
  rw [cellsF_app fs ⟨t, x, y⟩] at h
  unfold OwnF
  rw [List.length_append]
  exact h
theorem one_cells {w : World} {t x y : Int} {ty : TypeId} : ∀ (j : Nat) (u : Value), ([Value.int .i64 t, .int .i64 x, .int .i64 y] : List Value)[j]? = some u → (w.alloc (.cells #[.int .i64 t, .int .i64 x, .int .i64 y] ty)).cell? ((⟨w.heap.size, 0, none⟩ : Addr).add j) = some u := by
  intro j u hu
  rw [show (⟨w.heap.size, 0, none⟩ : Addr).add j = ⟨w.heap.size, j, none⟩ by simp [Addr.add]; omega]
  exact boxed j (by simpa using hu) rfl
theorem one_ones {t x y : Int} : ∀ u ∈ ([Value.int .i64 t, .int .i64 x, .int .i64 y] : List Value), u.oneCell' = true := by
  intro u hu
  simp at hu
  rcases hu with rfl | rfl | rfl <;> rfl
end Go.Proofs.YtmlojndkpnhalaaGreat.Trk
