import Derived.Test.YtmlojndkpnhalaaGreatNum
import Derived.Test.YtmlojndkpnhalaaGreatMKit
import Derived.Deep.RegionHeld3
import Derived.Deep.LoopGhost
import Derived.Deep.QuietTactic
import Derived.BigQuiet
import Derived.RegionTactic
import Derived.BigRegion
import Derived.OwnWalk
import Derived.Laws.OwnMore
namespace Go.Proofs.YtmlojndkpnhalaaGreat.Pts
open Go.ChangeShapes Go.WideShapes Go.ChangeAt Go.RowKit
open Go.Proofs.YtmlojndkpnhalaaGreat.Num Go.Proofs.YtmlojndkpnhalaaGreat.Kit
set_option linter.unusedVariables false
abbrev Pt (x y : Int) : Value := .agg #[.int .i64 x, .int .i64 y]
def coB (n : Int) : Bool := inB n (-1000000) 1000000
def ptB (x y : Int) : Bool := coB x && coB y
theorem ptB_yes {x y : Int} (h : ptB x y = true) : (-1000000 ≤ x ∧ x ≤ 1000000) ∧ -1000000 ≤ y ∧ y ≤ 1000000 := by
  unfold ptB coB at h; rw [Bool.and_eq_true] at h; exact ⟨of_inB h.1, of_inB h.2⟩
theorem isCoord_any (n : Int) (w : World) : Calls Tryz.prog 223 #[.int .i64 n] w fun e w' => e = .returned (.bool (coB n)) ∧ w = w' := by
  by_cases h1 : -1000000 ≤ n
  · by_cases h2 : n ≤ 1000000
    · have H := Lib.hid (show coB n = true from inB_yes h1 h2)
      go_enter Tryz.func223, Tryz.ntmps223
      go_wp2
      go_ret
      exact ⟨ret_bool H.out, rfl⟩
    · have H := Lib.hid (show coB n = false from inB_no (fun h => h2 h.2))
      go_enter Tryz.func223, Tryz.ntmps223
      go_wp2
      go_ret
      exact ⟨ret_bool H.out, rfl⟩
  · have H := Lib.hid (show coB n = false from inB_no (fun h => h1 h.1))
    go_enter Tryz.func223, Tryz.ntmps223
    go_wp2
    go_ret
    exact ⟨ret_bool H.out, rfl⟩
theorem isValid_any (x y : Int) (w : World) : Calls Tryz.prog 168 #[Pt x y] w fun e w' => e = .returned (.bool (ptB x y)) ∧ Ext w w' := by
  cases hx : coB x
  · have H := Lib.hid (show ptB x y = false by unfold ptB; rw [hx]; rfl)
    go_enter Tryz.func168, Tryz.ntmps168
    go_wp2_with (go_at_call 223; refine (isCoord_any _ _).mono ?_; rintro e w' ⟨rfl, rfl⟩)
    go_ret
    exact ⟨ret_bool H.out, (by repeat (first | exact Ext.refl _ | assumption | apply Ext.alloc | apply Ext.drew | (refine Ext.trans ?_ (by assumption)) | (refine Ext.setNew ?_ (by simp <;> omega) _)))⟩
  · have H := Lib.hid (show ptB x y = coB y by unfold ptB; rw [hx]; rfl)
    go_enter Tryz.func168, Tryz.ntmps168
    go_wp2_with (go_at_call 223; refine (isCoord_any _ _).mono ?_; rintro e w' ⟨rfl, rfl⟩)
    go_ret
    exact ⟨ret_bool H.out, (by repeat (first | exact Ext.refl _ | assumption | apply Ext.alloc | apply Ext.drew | (refine Ext.trans ?_ (by assumption)) | (refine Ext.setNew ?_ (by simp <;> omega) _)))⟩
theorem isPoint_spec (x y : Int) (w : World) : Calls Tryz.prog 134 #[Pt x y] w fun e w' => e = .returned (.bool (ptB x y)) ∧ Ext w w' := by
  cases hx : inB x (-1000000) 1000000
  · have H := Lib.hid (show ptB x y = false by unfold ptB coB; rw [hx]; rfl)
    go_enter Tryz.func134, Tryz.ntmps134
    go_wp2_with (go_at_call 82; refine (in_any _ _ _ _).mono ?_; rintro e w' ⟨rfl, rfl⟩)
    go_ret
    exact ⟨ret_bool H.out, (by repeat (first | exact Ext.refl _ | assumption | apply Ext.alloc | apply Ext.drew | (refine Ext.trans ?_ (by assumption)) | (refine Ext.setNew ?_ (by simp <;> omega) _)))⟩
  · have H := Lib.hid (show ptB x y = inB y (-1000000) 1000000 by unfold ptB coB; rw [hx]; rfl)
    go_enter Tryz.func134, Tryz.ntmps134
    go_wp2_with (go_at_call 82; refine (in_any _ _ _ _).mono ?_; rintro e w' ⟨rfl, rfl⟩)
    go_ret
    exact ⟨ret_bool H.out, (by repeat (first | exact Ext.refl _ | assumption | apply Ext.alloc | apply Ext.drew | (refine Ext.trans ?_ (by assumption)) | (refine Ext.setNew ?_ (by simp <;> omega) _)))⟩
theorem vectorTo_any (x y u v : Int) (w : World) (hx : -1000000 ≤ x ∧ x ≤ 1000000) (hy : -1000000 ≤ y ∧ y ≤ 1000000) (hu : -1000000 ≤ u ∧ u ≤ 1000000) (hv : -1000000 ≤ v ∧ v ≤ 1000000) :
    Calls Tryz.prog 243 #[Pt x y, Pt u v] w fun e w' => e = .returned (Pt (u - x) (v - y)) ∧ Ext w w' := by
  go_enter Tryz.func243, Tryz.ntmps243
  go_wp2
  exact bodyPost_ret (v := Pt (u - x) (v - y)) (by simp [results, Tryz.results243, go_sem]) rfl ⟨rfl, (by repeat (first | exact Ext.refl _ | assumption | apply Ext.alloc | apply Ext.drew | (refine Ext.trans ?_ (by assumption)) | (refine Ext.setNew ?_ (by simp <;> omega) _)))⟩
theorem mul_bd {x y : Int} (A B : Int) (hx : -A ≤ x ∧ x ≤ A) (hy : -B ≤ y ∧ y ≤ B) : -(A * B) ≤ x * y ∧ x * y ≤ A * B := by
  have hA : 0 ≤ A := by omega
  have hB : 0 ≤ B := by omega
  have h : (x * y).natAbs ≤ A.natAbs * B.natAbs := by
    rw [Int.natAbs_mul]; exact Nat.mul_le_mul (by omega) (by omega)
  have h2 : ((A.natAbs * B.natAbs : Nat) : Int) = A * B := by
    rw [Int.natCast_mul, Int.natAbs_of_nonneg hA, Int.natAbs_of_nonneg hB]
  omega
theorem dotI_any (x y u v : Int) (w : World) (hx : -2000000 ≤ x ∧ x ≤ 2000000) (hy : -2000000 ≤ y ∧ y ≤ 2000000) (hu : -2000000 ≤ u ∧ u ≤ 2000000) (hv : -2000000 ≤ v ∧ v ≤ 2000000) :
    Calls Tryz.prog 301 #[Pt x y, Pt u v] w fun e w' => e = .returned (.int .i64 (x * u + y * v)) ∧ Ext w w' := by
  obtain ⟨a1, a2⟩ := mul_bd 2000000 2000000 hx hu
  obtain ⟨b1, b2⟩ := mul_bd 2000000 2000000 hy hv
  simp only [Int.reduceMul, Int.reduceNeg] at a1 a2 b1 b2
  go_enter Tryz.func301, Tryz.ntmps301
  go_wp2
  go_ret
  exact ⟨rfl, (by repeat (first | exact Ext.refl _ | assumption | apply Ext.alloc | apply Ext.drew | (refine Ext.trans ?_ (by assumption)) | (refine Ext.setNew ?_ (by simp <;> omega) _)))⟩
theorem squareLength_any (x y : Int) (w : World) (hx : -2000000 ≤ x ∧ x ≤ 2000000) (hy : -2000000 ≤ y ∧ y ≤ 2000000) :
    Calls Tryz.prog 261 #[Pt x y] w fun e w' => e = .returned (.int .i64 (x * x + y * y)) ∧ Ext w w' := by
  go_enter Tryz.func261, Tryz.ntmps261
  go_wp2_with (go_at_call 301; refine (dotI_any _ _ _ _ _ (by omega) (by omega) (by omega) (by omega)).mono ?_; rintro e w1 ⟨rfl, hx⟩)
  go_ret
  exact ⟨rfl, (by repeat (first | exact Ext.refl _ | assumption | apply Ext.alloc | apply Ext.drew | (refine Ext.trans ?_ (by assumption)) | (refine Ext.setNew ?_ (by simp <;> omega) _)))⟩
theorem cross_any (x y u v : Int) (w : World) (hx : -2000000 ≤ x ∧ x ≤ 2000000) (hy : -2000000 ≤ y ∧ y ≤ 2000000) (hu : -2000000 ≤ u ∧ u ≤ 2000000) (hv : -2000000 ≤ v ∧ v ≤ 2000000) :
    Calls Tryz.prog 302 #[Pt x y, Pt u v] w fun e w' => e = .returned (.int .i64 (x * v - y * u)) ∧ Ext w w' := by
  obtain ⟨a1, a2⟩ := mul_bd 2000000 2000000 hx hv
  obtain ⟨b1, b2⟩ := mul_bd 2000000 2000000 hy hu
  simp only [Int.reduceMul, Int.reduceNeg] at a1 a2 b1 b2
  go_enter Tryz.func302, Tryz.ntmps302
  go_wp2
  go_ret
  exact ⟨rfl, (by repeat (first | exact Ext.refl _ | assumption | apply Ext.alloc | apply Ext.drew | (refine Ext.trans ?_ (by assumption)) | (refine Ext.setNew ?_ (by simp <;> omega) _)))⟩
def sgn (n : Int) : Int := if n < 0 then -1 else if 0 < n then 1 else 0
theorem signOf_any (n : Int) (w : World) : Calls Tryz.prog 293 #[.int .i64 n] w fun e w' => e = .returned (.int .i64 (sgn n)) ∧ w = w' := by
  by_cases h1 : n < 0
  · have H := Lib.hid (show sgn n = -1 by unfold sgn; rw [if_pos h1])
    go_enter Tryz.func293, Tryz.ntmps293
    go_wp2
    go_ret
    exact ⟨ret_int H.out, rfl⟩
  · by_cases h2 : 0 < n
    · have H := Lib.hid (show sgn n = 1 by unfold sgn; rw [if_neg h1, if_pos h2])
      go_enter Tryz.func293, Tryz.ntmps293
      go_wp2
      go_ret
      exact ⟨ret_int H.out, rfl⟩
    · have H := Lib.hid (show sgn n = 0 by unfold sgn; rw [if_neg h1, if_neg h2])
      go_enter Tryz.func293, Tryz.ntmps293
      go_wp2
      go_ret
      exact ⟨ret_int H.out, rfl⟩
def sqD (x y u v : Int) : Int := (u - x) * (u - x) + (v - y) * (v - y)
def trn (x y u v a b : Int) : Int := sgn ((u - x) * (b - y) - (v - y) * (a - x))
def tuC (x y u v a b : Int) : Int := if ptB x y = true ∧ ptB u v = true ∧ ptB a b = true then 0 else 1
theorem minus_any (x y u v : Int) (w : World) (hx : -1000000 ≤ x ∧ x ≤ 1000000) (hy : -1000000 ≤ y ∧ y ≤ 1000000) (hu : -1000000 ≤ u ∧ u ≤ 1000000) (hv : -1000000 ≤ v ∧ v ≤ 1000000) :
    Calls Tryz.prog 131 #[Pt x y, Pt u v] w fun e w' => e = .returned (Pt (x - u) (y - v)) ∧ Ext w w' := by
  go_enter Tryz.func131, Tryz.ntmps131
  go_wp2
  exact bodyPost_ret (v := Pt (x - u) (y - v)) (by simp [results, Tryz.results131, go_sem]) rfl ⟨rfl, (by repeat (first | exact Ext.refl _ | assumption | apply Ext.alloc | apply Ext.drew | (refine Ext.trans ?_ (by assumption)) | (refine Ext.setNew ?_ (by simp <;> omega) _)))⟩
theorem dot_any (x y u v : Int) (w : World) (hx : -2000000 ≤ x ∧ x ≤ 2000000) (hy : -2000000 ≤ y ∧ y ≤ 2000000) (hu : -2000000 ≤ u ∧ u ≤ 2000000) (hv : -2000000 ≤ v ∧ v ≤ 2000000) :
    Calls Tryz.prog 133 #[Pt x y, Pt u v] w fun e w' => e = .returned (.int .i64 (x * u + y * v)) ∧ Ext w w' := by
  obtain ⟨a1, a2⟩ := mul_bd 2000000 2000000 hx hu
  obtain ⟨b1, b2⟩ := mul_bd 2000000 2000000 hy hv
  simp only [Int.reduceMul, Int.reduceNeg] at a1 a2 b1 b2
  go_enter Tryz.func133, Tryz.ntmps133
  go_wp2
  go_ret
  exact ⟨rfl, (by repeat (first | exact Ext.refl _ | assumption | apply Ext.alloc | apply Ext.drew | (refine Ext.trans ?_ (by assumption)) | (refine Ext.setNew ?_ (by simp <;> omega) _)))⟩
theorem crossS_any (x y u v : Int) (w : World) (hx : -2000000 ≤ x ∧ x ≤ 2000000) (hy : -2000000 ≤ y ∧ y ≤ 2000000) (hu : -2000000 ≤ u ∧ u ≤ 2000000) (hv : -2000000 ≤ v ∧ v ≤ 2000000) :
    Calls Tryz.prog 215 #[Pt x y, Pt u v] w fun e w' => e = .returned (.int .i64 (x * v - y * u)) ∧ Ext w w' := by
  obtain ⟨a1, a2⟩ := mul_bd 2000000 2000000 hx hv
  obtain ⟨b1, b2⟩ := mul_bd 2000000 2000000 hy hu
  simp only [Int.reduceMul, Int.reduceNeg] at a1 a2 b1 b2
  go_enter Tryz.func215, Tryz.ntmps215
  go_wp2
  go_ret
  exact ⟨rfl, (by repeat (first | exact Ext.refl _ | assumption | apply Ext.alloc | apply Ext.drew | (refine Ext.trans ?_ (by assumption)) | (refine Ext.setNew ?_ (by simp <;> omega) _)))⟩
theorem sign_any (n : Int) (w : World) : Calls Tryz.prog 214 #[.int .i64 n] w fun e w' => e = .returned (.int .i64 (sgn n)) ∧ w = w' := by
  by_cases h1 : n < 0
  · have H := Lib.hid (show sgn n = -1 by unfold sgn; rw [if_pos h1])
    go_enter Tryz.func214, Tryz.ntmps214
    go_wp2
    go_ret
    exact ⟨ret_int H.out, rfl⟩
  · by_cases h2 : 0 < n
    · have H := Lib.hid (show sgn n = 1 by unfold sgn; rw [if_neg h1, if_pos h2])
      go_enter Tryz.func214, Tryz.ntmps214
      go_wp2
      go_ret
      exact ⟨ret_int H.out, rfl⟩
    · have H := Lib.hid (show sgn n = 0 by unfold sgn; rw [if_neg h1, if_neg h2])
      go_enter Tryz.func214, Tryz.ntmps214
      go_wp2
      go_ret
      exact ⟨ret_int H.out, rfl⟩
theorem sqD_eq (x y u v : Int) : sqD x y u v = (x - u) * (x - u) + (y - v) * (y - v) := by
  have h : ∀ a b : Int, (a - b) * (a - b) = (b - a) * (b - a) := fun a b => by rw [← Int.neg_sub b a, Int.neg_mul_neg]
  unfold sqD; rw [h u x, h v y]
theorem square_any (x y u v : Int) (w : World) (hx : -1000000 ≤ x ∧ x ≤ 1000000) (hy : -1000000 ≤ y ∧ y ≤ 1000000) (hu : -1000000 ≤ u ∧ u ≤ 1000000) (hv : -1000000 ≤ v ∧ v ≤ 1000000) :
    Calls Tryz.prog 205 #[Pt x y, Pt u v] w fun e w' => e = .returned (.int .i64 (sqD x y u v)) ∧ Ext w w' := by
  have H := Lib.hid (sqD_eq x y u v)
  go_enter Tryz.func205, Tryz.ntmps205
  go_wp2_with fail
  go_region_held3 (fun w' => w'.cell? ⟨w.heap.size, 0, none⟩ = some (.int .i64 x) ∧ w'.cell? ⟨w.heap.size, 1, none⟩ = some (.int .i64 y) ∧ w'.cell? ⟨w.heap.size + 1, 0, none⟩ = some (.int .i64 u) ∧ w'.cell? ⟨w.heap.size + 1, 1, none⟩ = some (.int .i64 v))
    (first | go_keep | (go_split_ands; refine ⟨?_, ?_, ?_, ?_⟩ <;> exact Ext.cellOf hx (by assumption)))
    (first | (go_at_call 131; refine (minus_any _ _ _ _ _ (by omega) (by omega) (by omega) (by omega)).mono ?_; rintro e w1 ⟨rfl, hx⟩) | (go_at_call 133; refine (dot_any _ _ _ _ _ (by omega) (by omega) (by omega) (by omega)).mono ?_; rintro e w1 ⟨rfl, hx⟩))
  all_goals
    go_wp2
    go_ret
    exact ⟨ret_int H.out, (by repeat (first | exact Ext.refl _ | assumption | apply Ext.alloc | apply Ext.drew | (refine Ext.trans ?_ (by assumption)) | (refine Ext.setNew ?_ (by simp <;> omega) _)))⟩
theorem turn_any (x y u v a b : Int) (w : World) (hx : -1000000 ≤ x ∧ x ≤ 1000000) (hy : -1000000 ≤ y ∧ y ≤ 1000000) (hu : -1000000 ≤ u ∧ u ≤ 1000000) (hv : -1000000 ≤ v ∧ v ≤ 1000000) (ha : -1000000 ≤ a ∧ a ≤ 1000000) (hb : -1000000 ≤ b ∧ b ≤ 1000000) :
    Calls Tryz.prog 285 #[Pt x y, Pt u v, Pt a b] w fun e w' => e = .returned (.int .i64 (trn x y u v a b)) ∧ Ext w w' := by
  go_enter Tryz.func285, Tryz.ntmps285
  go_wp2_with fail
  obtain ⟨c1, c2, c3, c4, c5, c6⟩ := boxes3 w 25 x y u v a b
  go_region_held3 (fun w' => w'.cell? ⟨w.heap.size, 0, none⟩ = some (.int .i64 x) ∧ w'.cell? ⟨w.heap.size, 1, none⟩ = some (.int .i64 y) ∧ w'.cell? ⟨w.heap.size + 1, 0, none⟩ = some (.int .i64 u) ∧ w'.cell? ⟨w.heap.size + 1, 1, none⟩ = some (.int .i64 v) ∧ w'.cell? ⟨w.heap.size + 1 + 1, 0, none⟩ = some (.int .i64 a) ∧ w'.cell? ⟨w.heap.size + 1 + 1, 1, none⟩ = some (.int .i64 b))
    (first | exact ⟨c1, c2, c3, c4, c5, c6⟩ | (go_split_ands; refine ⟨?_, ?_, ?_, ?_, ?_, ?_⟩ <;> first | assumption | exact Ext.cellOf hx (by assumption)))
    (first | (go_at_call 131; refine (minus_any _ _ _ _ _ (by omega) (by omega) (by omega) (by omega)).mono ?_; rintro e w1 ⟨rfl, hx⟩) | (go_at_call 215; refine (crossS_any _ _ _ _ _ (by omega) (by omega) (by omega) (by omega)).mono ?_; rintro e w1 ⟨rfl, hx⟩) | (go_at_call 214; refine (sign_any _ _).mono ?_; rintro e w1 ⟨rfl, rfl⟩))
  all_goals
    go_wp2
    go_ret
    exact ⟨ret_int rfl, (by repeat (first | exact Ext.refl _ | assumption | apply Ext.alloc | apply Ext.drew | (refine Ext.trans ?_ (by assumption)) | (refine Ext.setNew ?_ (by simp <;> omega) _)))⟩
theorem toPoint_any (x y : Int) (w : World) : Calls Tryz.prog 176 #[Pt x y] w fun e w' => e = .returned (Pt x y) ∧ Ext w w' := by
  go_enter Tryz.func176, Tryz.ntmps176
  go_wp2
  exact bodyPost_ret (v := Pt x y) (by simp [results, Tryz.results176, go_sem]) rfl ⟨rfl, (by repeat (first | exact Ext.refl _ | assumption | apply Ext.alloc | apply Ext.drew | (refine Ext.trans ?_ (by assumption)) | (refine Ext.setNew ?_ (by simp <;> omega) _)))⟩
end Go.Proofs.YtmlojndkpnhalaaGreat.Pts
namespace Go.Proofs.YtmlojndkpnhalaaGreat.Seg
open Go.ChangeShapes Go.WideShapes Go.ChangeAt Go.RowKit
open Go.Proofs.YtmlojndkpnhalaaGreat.Num Go.Proofs.YtmlojndkpnhalaaGreat.Kit Go.Proofs.YtmlojndkpnhalaaGreat.Pts
set_option linter.unusedVariables false
abbrev Sg (a b c d : Int) : Value := .agg #[.int .i64 a, .int .i64 b, .int .i64 c, .int .i64 d]
abbrev Co (n : Int) : Prop := -1000000 ≤ n ∧ n ≤ 1000000
def sgB (a b c d : Int) : Bool := ptB a b && (ptB c d && !(a == c && b == d))
theorem sgB_yes {a b c d : Int} (h : sgB a b c d = true) : (Co a ∧ Co b ∧ Co c ∧ Co d) ∧ ¬ (a = c ∧ b = d) := by
  unfold sgB at h
  simp only [Bool.and_eq_true, Bool.not_eq_true', Bool.and_eq_false_iff, beq_eq_false_iff_ne] at h
  obtain ⟨h1, h2, h3⟩ := h
  have p := ptB_yes h1; have q := ptB_yes h2
  refine ⟨⟨p.1, p.2, q.1, q.2⟩, fun h => ?_⟩
  rcases h3 with h3 | h3
  · exact h3 h.1
  · exact h3 h.2
theorem sgValid_any (a b c d : Int) (w : World) : Calls Tryz.prog 196 #[Sg a b c d] w fun e w' => e = .returned (.bool (sgB a b c d)) ∧ Ext w w' := by
  cases h1 : ptB a b
  · have H := Lib.hid (show sgB a b c d = false by unfold sgB; rw [h1]; rfl)
    go_enter Tryz.func196, Tryz.ntmps196
    go_wp2_with (go_at_call 168; refine (isValid_any _ _ _).mono ?_; rintro e w1 ⟨rfl, hx⟩; obtain ⟨hc, hf⟩ := hx.facts; have hz := hx.size; (try simp at hz); (try (have hz0 : w.heap.size < w1.heap.size := by omega)); (try (have hz1 : w.heap.size + 1 < w1.heap.size := by omega)); (try (have hz2 : w.heap.size + 1 + 1 < w1.heap.size := by omega)); (try (have hz3 : w.heap.size + 1 + 1 + 1 < w1.heap.size := by omega)))
    go_ret
    exact ⟨ret_bool H.out, (by repeat (first | exact Ext.refl _ | assumption | apply Ext.alloc | apply Ext.drew | (refine Ext.trans ?_ (by assumption)) | (refine Ext.setNew ?_ (by simp <;> omega) _)))⟩
  cases h2 : ptB c d
  · have H := Lib.hid (show sgB a b c d = false by unfold sgB; rw [h1, h2]; rfl)
    go_enter Tryz.func196, Tryz.ntmps196
    go_wp2_with (go_at_call 168; refine (isValid_any _ _ _).mono ?_; rintro e w1 ⟨rfl, hx⟩; obtain ⟨hc, hf⟩ := hx.facts; have hz := hx.size; (try simp at hz); (try (have hz0 : w.heap.size < w1.heap.size := by omega)); (try (have hz1 : w.heap.size + 1 < w1.heap.size := by omega)); (try (have hz2 : w.heap.size + 1 + 1 < w1.heap.size := by omega)); (try (have hz3 : w.heap.size + 1 + 1 + 1 < w1.heap.size := by omega)))
    go_ret
    exact ⟨ret_bool H.out, (by repeat (first | exact Ext.refl _ | assumption | apply Ext.alloc | apply Ext.drew | (refine Ext.trans ?_ (by assumption)) | (refine Ext.setNew ?_ (by simp <;> omega) _)))⟩
  · have H := Lib.hid (show sgB a b c d = !(a == c && b == d) by unfold sgB; rw [h1, h2]; rfl)
    cases h3 : (a == c)
    · rw [h3] at H
      go_enter Tryz.func196, Tryz.ntmps196
      go_wp2_with (go_at_call 168; refine (isValid_any _ _ _).mono ?_; rintro e w1 ⟨rfl, hx⟩; obtain ⟨hc, hf⟩ := hx.facts; have hz := hx.size; (try simp at hz); (try (have hz0 : w.heap.size < w1.heap.size := by omega)); (try (have hz1 : w.heap.size + 1 < w1.heap.size := by omega)); (try (have hz2 : w.heap.size + 1 + 1 < w1.heap.size := by omega)); (try (have hz3 : w.heap.size + 1 + 1 + 1 < w1.heap.size := by omega)))
      go_ret
      exact ⟨ret_bool H.out, (by repeat (first | exact Ext.refl _ | assumption | apply Ext.alloc | apply Ext.drew | (refine Ext.trans ?_ (by assumption)) | (refine Ext.setNew ?_ (by simp <;> omega) _)))⟩
    · rw [h3] at H
      cases h4 : (b == d)
      · rw [h4] at H
        go_enter Tryz.func196, Tryz.ntmps196
        go_wp2_with (go_at_call 168; refine (isValid_any _ _ _).mono ?_; rintro e w1 ⟨rfl, hx⟩; obtain ⟨hc, hf⟩ := hx.facts; have hz := hx.size; (try simp at hz); (try (have hz0 : w.heap.size < w1.heap.size := by omega)); (try (have hz1 : w.heap.size + 1 < w1.heap.size := by omega)); (try (have hz2 : w.heap.size + 1 + 1 < w1.heap.size := by omega)); (try (have hz3 : w.heap.size + 1 + 1 + 1 < w1.heap.size := by omega)))
        go_ret
        exact ⟨ret_bool H.out, (by repeat (first | exact Ext.refl _ | assumption | apply Ext.alloc | apply Ext.drew | (refine Ext.trans ?_ (by assumption)) | (refine Ext.setNew ?_ (by simp <;> omega) _)))⟩
      · rw [h4] at H
        go_enter Tryz.func196, Tryz.ntmps196
        go_wp2_with (go_at_call 168; refine (isValid_any _ _ _).mono ?_; rintro e w1 ⟨rfl, hx⟩; obtain ⟨hc, hf⟩ := hx.facts; have hz := hx.size; (try simp at hz); (try (have hz0 : w.heap.size < w1.heap.size := by omega)); (try (have hz1 : w.heap.size + 1 < w1.heap.size := by omega)); (try (have hz2 : w.heap.size + 1 + 1 < w1.heap.size := by omega)); (try (have hz3 : w.heap.size + 1 + 1 + 1 < w1.heap.size := by omega)))
        go_ret
        exact ⟨ret_bool H.out, (by repeat (first | exact Ext.refl _ | assumption | apply Ext.alloc | apply Ext.drew | (refine Ext.trans ?_ (by assumption)) | (refine Ext.setNew ?_ (by simp <;> omega) _)))⟩
theorem vector_any (a b c d : Int) (w : World) (ha : Co a) (hb : Co b) (hc : Co c) (hd : Co d) :
    Calls Tryz.prog 194 #[Sg a b c d] w fun e w' => e = .returned (Pt (c - a) (d - b)) ∧ Ext w w' := by
  go_enter Tryz.func194, Tryz.ntmps194
  go_wp2_with fail
  refine (vectorTo_any _ _ _ _ _ ha hb hc hd).mono ?_
  rintro e w1 ⟨rfl, hx⟩
  have B := Lib.hid ((Box.new2 (w := w.alloc (.cells #[.int .i64 a, .int .i64 b, .int .i64 c, .int .i64 d] 225)) (n := w.heap.size + 1) (x := .int .i64 0) (y := .int .i64 0) (t := 25) (by simp)).ext hx)
  obtain ⟨⟨c0, c1⟩, f0, f1⟩ := B.out.two
  go_wp2
  obtain ⟨⟨g0, g1⟩, _, _⟩ := (B.out.set2 (u := .int .i64 (c - a)) (v := .int .i64 (d - b))).two
  exact bodyPost_ret (v := Pt (c - a) (d - b)) (by simp [results, Tryz.results194, go_sem, g0, g1]) rfl ⟨rfl, (by repeat (first | exact Ext.refl _ | assumption | apply Ext.alloc | apply Ext.drew | (refine Ext.trans ?_ (by assumption)) | (refine Ext.setNew ?_ (by simp <;> omega) _)))⟩
def crs (a b c d p q : Int) : Int := (c - a) * (q - b) - (d - b) * (p - a)
theorem turnTo_any (a b c d p q : Int) (w : World) (ha : Co a) (hb : Co b) (hc : Co c) (hd : Co d) (hp : Co p) (hq : Co q) :
    Calls Tryz.prog 263 #[Sg a b c d, Pt p q] w fun e w' => e = .returned (.int .i64 (crs a b c d p q)) ∧ Ext w w' := by
  have H := Lib.hid (show crs a b c d p q = (c - a) * (q - b) - (d - b) * (p - a) from rfl)
  go_enter Tryz.func263, Tryz.ntmps263
  go_wp2_with fail
  go_region_held3 (fun w' => w'.cell? ⟨w.heap.size, 0, none⟩ = some (.int .i64 a) ∧ w'.cell? ⟨w.heap.size, 1, none⟩ = some (.int .i64 b) ∧ w'.cell? ⟨w.heap.size, 2, none⟩ = some (.int .i64 c) ∧ w'.cell? ⟨w.heap.size, 3, none⟩ = some (.int .i64 d) ∧ w'.cell? ⟨w.heap.size + 1, 0, none⟩ = some (.int .i64 p) ∧ w'.cell? ⟨w.heap.size + 1, 1, none⟩ = some (.int .i64 q))
    (first | go_keep | (go_split_ands; refine ⟨?_, ?_, ?_, ?_, ?_, ?_⟩ <;> exact Ext.cellOf hx (by assumption)))
    (first | (go_at_call 194; refine (vector_any _ _ _ _ _ (by omega) (by omega) (by omega) (by omega)).mono ?_; rintro e w1 ⟨rfl, hx⟩) | (go_at_call 243; refine (vectorTo_any _ _ _ _ _ (by omega) (by omega) (by omega) (by omega)).mono ?_; rintro e w1 ⟨rfl, hx⟩) | (go_at_call 302; refine (cross_any _ _ _ _ _ (by omega) (by omega) (by omega) (by omega)).mono ?_; rintro e w1 ⟨rfl, hx⟩))
  all_goals
    go_wp2
    go_ret
    exact ⟨ret_int H.out, (by repeat (first | exact Ext.refl _ | assumption | apply Ext.alloc | apply Ext.drew | (refine Ext.trans ?_ (by assumption)) | (refine Ext.setNew ?_ (by simp <;> omega) _)))⟩
theorem eqPoint_same (x y : Int) (w : World) : Calls Tryz.prog 178 #[Pt x y, Pt x y] w fun e w' => e = .returned (.bool true) ∧ Ext w w' := by
  go_enter Tryz.func178, Tryz.ntmps178
  go_wp2
  go_ret
  exact ⟨rfl, (by repeat (first | exact Ext.refl _ | assumption | apply Ext.alloc | apply Ext.drew | (refine Ext.trans ?_ (by assumption)) | (refine Ext.setNew ?_ (by simp <;> omega) _)))⟩
end Go.Proofs.YtmlojndkpnhalaaGreat.Seg
namespace Go.Proofs.YtmlojndkpnhalaaGreat.Crs
open Go.ChangeShapes Go.WideShapes Go.ChangeAt Go.RowKit
open Go.Proofs.YtmlojndkpnhalaaGreat.Num Go.Proofs.YtmlojndkpnhalaaGreat.Kit Go.Proofs.YtmlojndkpnhalaaGreat.Pts Go.Proofs.YtmlojndkpnhalaaGreat.Seg
set_option linter.unusedVariables false
theorem lineValid_any (a b c d : Int) (w : World) : Calls Tryz.prog 122 #[Sg a b c d] w fun e w' => e = .returned (.bool (sgB a b c d)) ∧ Ext w w' := by
  go_enter Tryz.func122, Tryz.ntmps122
  go_wp2_with (go_at_call 196; refine (sgValid_any _ _ _ _ _).mono ?_; rintro e w1 ⟨rfl, hx⟩)
  go_ret
  exact ⟨rfl, (by repeat (first | exact Ext.refl _ | assumption | apply Ext.alloc | apply Ext.drew | (refine Ext.trans ?_ (by assumption)) | (refine Ext.setNew ?_ (by simp <;> omega) _)))⟩
theorem isLine_spec (a b c d : Int) (w : World) : Calls Tryz.prog 140 #[Sg a b c d] w fun e w' => e = .returned (.bool (sgB a b c d)) ∧ Ext w w' := by
  cases h1 : ptB a b
  · have H := Lib.hid (show sgB a b c d = false by unfold sgB; rw [h1]; rfl)
    go_enter Tryz.func140, Tryz.ntmps140
    go_wp2_with (go_at_call 134; refine (isPoint_spec _ _ _).mono ?_; rintro e w1 ⟨rfl, hx⟩; obtain ⟨hc, hf⟩ := hx.facts; have hz := hx.size; (try simp at hz); (try (have hz0 : w.heap.size < w1.heap.size := by omega)); (try (have hz1 : w.heap.size + 1 < w1.heap.size := by omega)); (try (have hz2 : w.heap.size + 1 + 1 < w1.heap.size := by omega)); (try (have hz3 : w.heap.size + 1 + 1 + 1 < w1.heap.size := by omega)))
    go_ret
    exact ⟨ret_bool H.out, (by repeat (first | exact Ext.refl _ | assumption | apply Ext.alloc | apply Ext.drew | (refine Ext.trans ?_ (by assumption)) | (refine Ext.setNew ?_ (by simp <;> omega) _)))⟩
  cases h2 : ptB c d
  · have H := Lib.hid (show sgB a b c d = false by unfold sgB; rw [h1, h2]; rfl)
    go_enter Tryz.func140, Tryz.ntmps140
    go_wp2_with (go_at_call 134; refine (isPoint_spec _ _ _).mono ?_; rintro e w1 ⟨rfl, hx⟩; obtain ⟨hc, hf⟩ := hx.facts; have hz := hx.size; (try simp at hz); (try (have hz0 : w.heap.size < w1.heap.size := by omega)); (try (have hz1 : w.heap.size + 1 < w1.heap.size := by omega)); (try (have hz2 : w.heap.size + 1 + 1 < w1.heap.size := by omega)); (try (have hz3 : w.heap.size + 1 + 1 + 1 < w1.heap.size := by omega)))
    go_ret
    exact ⟨ret_bool H.out, (by repeat (first | exact Ext.refl _ | assumption | apply Ext.alloc | apply Ext.drew | (refine Ext.trans ?_ (by assumption)) | (refine Ext.setNew ?_ (by simp <;> omega) _)))⟩
  · have H := Lib.hid (show sgB a b c d = !(a == c && b == d) by unfold sgB; rw [h1, h2]; rfl)
    cases h3 : (a == c)
    · rw [h3] at H
      go_enter Tryz.func140, Tryz.ntmps140
      go_wp2_with (go_at_call 134; refine (isPoint_spec _ _ _).mono ?_; rintro e w1 ⟨rfl, hx⟩; obtain ⟨hc, hf⟩ := hx.facts; have hz := hx.size; (try simp at hz); (try (have hz0 : w.heap.size < w1.heap.size := by omega)); (try (have hz1 : w.heap.size + 1 < w1.heap.size := by omega)); (try (have hz2 : w.heap.size + 1 + 1 < w1.heap.size := by omega)); (try (have hz3 : w.heap.size + 1 + 1 + 1 < w1.heap.size := by omega)))
      go_ret
      exact ⟨ret_bool H.out, (by repeat (first | exact Ext.refl _ | assumption | apply Ext.alloc | apply Ext.drew | (refine Ext.trans ?_ (by assumption)) | (refine Ext.setNew ?_ (by simp <;> omega) _)))⟩
    · rw [h3] at H
      cases h4 : (b == d)
      · rw [h4] at H
        go_enter Tryz.func140, Tryz.ntmps140
        go_wp2_with (go_at_call 134; refine (isPoint_spec _ _ _).mono ?_; rintro e w1 ⟨rfl, hx⟩; obtain ⟨hc, hf⟩ := hx.facts; have hz := hx.size; (try simp at hz); (try (have hz0 : w.heap.size < w1.heap.size := by omega)); (try (have hz1 : w.heap.size + 1 < w1.heap.size := by omega)); (try (have hz2 : w.heap.size + 1 + 1 < w1.heap.size := by omega)); (try (have hz3 : w.heap.size + 1 + 1 + 1 < w1.heap.size := by omega)))
        go_ret
        exact ⟨ret_bool H.out, (by repeat (first | exact Ext.refl _ | assumption | apply Ext.alloc | apply Ext.drew | (refine Ext.trans ?_ (by assumption)) | (refine Ext.setNew ?_ (by simp <;> omega) _)))⟩
      · rw [h4] at H
        go_enter Tryz.func140, Tryz.ntmps140
        go_wp2_with (go_at_call 134; refine (isPoint_spec _ _ _).mono ?_; rintro e w1 ⟨rfl, hx⟩; obtain ⟨hc, hf⟩ := hx.facts; have hz := hx.size; (try simp at hz); (try (have hz0 : w.heap.size < w1.heap.size := by omega)); (try (have hz1 : w.heap.size + 1 < w1.heap.size := by omega)); (try (have hz2 : w.heap.size + 1 + 1 < w1.heap.size := by omega)); (try (have hz3 : w.heap.size + 1 + 1 + 1 < w1.heap.size := by omega)))
        go_ret
        exact ⟨ret_bool H.out, (by repeat (first | exact Ext.refl _ | assumption | apply Ext.alloc | apply Ext.drew | (refine Ext.trans ?_ (by assumption)) | (refine Ext.setNew ?_ (by simp <;> omega) _)))⟩
theorem line_done {n : Nat} {w F : World} {tmps : Array Value} {a b c d : Int} (B : Box F n [.int .i64 a, .int .i64 b, .int .i64 c, .int .i64 d]) (hC : Ext w F) (ha : tmps[2]? = some (.pointer (some ⟨n, 0, none⟩))) :
    bodyPost Tryz.prog Tryz.f101 (fun e w' => e = .returned (Sg a b c d) ∧ Ext w w') Exit.ret ⟨tmps, []⟩ F := by
  obtain ⟨⟨g0, g1, g2, g3⟩, _⟩ := B.four
  exact bodyPost_ret (v := Sg a b c d) (by simp [results, Tryz.results101, go_sem, ha, g0, g1, g2, g3]) rfl ⟨rfl, hC⟩
theorem toLine_any (a b c d : Int) (w : World) : Calls Tryz.prog 101 #[Sg a b c d] w fun e w' => e = .returned (Sg a b c d) ∧ Ext w w' := by
  go_enter Tryz.func101, Tryz.ntmps101
  go_wp2_with fail
  refine (toPoint_any _ _ _).mono ?_
  rintro e w1 ⟨rfl, hx⟩
  have B0 := ((((Box.new4 (w := w) (n := w.heap.size) (x := .int .i64 a) (y := .int .i64 b) (z := .int .i64 c) (u := .int .i64 d) (t := 76) rfl).alloc _).alloc _).ext hx)
  have B1 := ((Box.new4 (w := w.alloc (.cells #[.int .i64 a, .int .i64 b, .int .i64 c, .int .i64 d] 76)) (n := w.heap.size + 1) (x := .int .i64 0) (y := .int .i64 0) (z := .int .i64 0) (u := .int .i64 0) (t := 27) (by simp)).alloc _).ext hx
  have B2 := ((Box.new4 (w := (w.alloc (.cells #[.int .i64 a, .int .i64 b, .int .i64 c, .int .i64 d] 76)).alloc (.cells #[.int .i64 0, .int .i64 0, .int .i64 0, .int .i64 0] 27)) (n := w.heap.size + 1 + 1) (x := .int .i64 0) (y := .int .i64 0) (z := .int .i64 0) (u := .int .i64 0) (t := 27) (by simp))).ext hx
  replace hx := (((Ext.refl w).alloc _).alloc _).alloc _ |>.trans hx
  obtain ⟨⟨p0, p1, p2, p3⟩, _⟩ := B0.four
  replace B1 := B1.away2 (m := w.heap.size + 1 + 1) (i := 0) (j := 1) (u := .int .i64 a) (v := .int .i64 b) (by omega)
  have HB2 := Lib.hid ((B2.set 0 (by simp) (.int .i64 a)).set 1 (by simp) (.int .i64 b))
  obtain ⟨_, f0, f1, _, _⟩ := B2.four
  clear B2
  go_wp2_with fail
  refine (toPoint_any _ _ _).mono ?_
  rintro e w2 ⟨rfl, hx2⟩
  replace hx := (((hx.setNew (p := ⟨w.heap.size + 1 + 1, 0, none⟩) (by simp; omega) (.int .i64 a)).setNew (p := ⟨w.heap.size + 1 + 1, 1, none⟩) (by simp; omega) (.int .i64 b))).trans hx2
  have HB1 := Lib.hid (((B1.ext hx2).away2 (m := w.heap.size + 1 + 1) (i := 2) (j := 3) (u := .int .i64 c) (v := .int .i64 d) (by omega)).set4 (a := .int .i64 a) (b := .int .i64 b) (c := .int .i64 c) (d := .int .i64 d))
  obtain ⟨_, h0, h1, h2, h3⟩ := (B1.ext hx2).four
  have HB3 := Lib.hid (HB2.out.ext hx2)
  obtain ⟨⟨i0, i1, i2, i3⟩, j0, j1, j2, j3⟩ := HB3.out.four
  clear B0 B1 hx2 f0 f1
  go_wp2
  refine line_done HB1.out ?_ rfl
  exact (((((hx.setNew (p := ⟨w.heap.size + 1 + 1, 2, none⟩) (by simp; omega) _).setNew (p := ⟨w.heap.size + 1 + 1, 3, none⟩) (by simp; omega) _).setNew (p := ⟨w.heap.size + 1, 0, none⟩) (by simp) _).setNew (p := ⟨w.heap.size + 1, 1, none⟩) (by simp) _).setNew (p := ⟨w.heap.size + 1, 2, none⟩) (by simp) _).setNew (p := ⟨w.heap.size + 1, 3, none⟩) (by simp) _
theorem before_spec (a b c d p q : Int) (w : World) (ha : Co a) (hb : Co b) (hc : Co c) (hd : Co d) (hp : Co p) (hq : Co q) :
    Calls Tryz.prog 314 #[Sg a b c d, Pt p q] w fun e w' => e = .returned (.int .i64 (trn a b c d p q)) ∧ Ext w w' := by
  go_enter Tryz.func314, Tryz.ntmps314
  go_wp2_with (go_at_call 285; refine (turn_any _ _ _ _ _ _ _ ha hb hc hd hp hq).mono ?_; rintro e w1 ⟨rfl, hx⟩)
  go_ret
  exact ⟨rfl, (by repeat (first | exact Ext.refl _ | assumption | apply Ext.alloc | apply Ext.drew | (refine Ext.trans ?_ (by assumption)) | (refine Ext.setNew ?_ (by simp <;> omega) _)))⟩
end Go.Proofs.YtmlojndkpnhalaaGreat.Crs
namespace Go.Proofs.YtmlojndkpnhalaaGreat.Gcd
open Go.ChangeShapes Go.WideShapes Go.ChangeAt Go.RowKit
open Go.Proofs.YtmlojndkpnhalaaGreat.Num Go.Proofs.YtmlojndkpnhalaaGreat.Kit Go.Proofs.YtmlojndkpnhalaaGreat.Pts Go.Proofs.YtmlojndkpnhalaaGreat.Seg
set_option linter.unusedVariables false
set_option linter.unusedSimpArgs false
def gc (a b : Int) : Int := (Nat.gcd a.toNat b.toNat : Nat)
theorem gc_zero {a : Int} (h : 0 ≤ a) : gc a 0 = a := by unfold gc; simp; omega
theorem gc_step {a b : Int} (ha : 0 ≤ a) (hb : 0 < b) : gc b (a % b) = gc a b := by
  unfold gc
  have e : (a % b).toNat = a.toNat % b.toNat := by
    rw [Int.toNat_emod ha (by omega)]
  rw [e, Nat.gcd_comm a.toNat b.toNat, Nat.gcd_rec b.toNat a.toNat, Nat.gcd_comm]
theorem gc_pos {a b : Int} (hb : 1 ≤ b) : 1 ≤ gc a b := by
  unfold gc
  have := Nat.gcd_pos_of_pos_right a.toNat (n := b.toNat) (by omega)
  omega
theorem div_bd {a g : Int} (ha : 0 ≤ a) (hg : 1 ≤ g) : 0 ≤ a / g ∧ a / g ≤ a := ⟨Int.ediv_nonneg ha (by omega), Int.ediv_le_self _ ha⟩
def RelG (w : World) (g M : Int) (s t : Value) (wr : World) : Prop := (∃ a b : Int, 0 ≤ a ∧ a ≤ M ∧ 0 ≤ b ∧ b ≤ M ∧ gc a b = g ∧ s = .int .i64 a ∧ t = .int .i64 b) ∧ Ext w wr
theorem commonDivisor_any (a b : Int) (w : World) (ha : 0 ≤ a) (ha2 : a ≤ 1000000000000000000) (hb : 0 ≤ b) (hb2 : b ≤ 1000000000000000000) :
    Calls Tryz.prog 318 #[.int .i64 a, .int .i64 b] w fun e w' => e = .returned (.int .i64 (gc a b)) ∧ Ext w w' := by
  go_enter Tryz.func318, Tryz.ntmps318
  go_wp2
  go_loopw [0, 1] (fun s t wr => RelG w (gc a b) 1000000000000000000 s t wr) (fun s t _ => (intOf t).toNat)
  case atStart => exact ⟨⟨a, b, ha, ha2, hb, hb2, rfl, rfl, rfl⟩, Ext.refl _⟩
  case round =>
    clear ha ha2 hb hb2
    obtain ⟨⟨x, y, x0, x1, y0, y1, hg, rfl, rfl⟩, hx⟩ := hrel
    by_cases hy : y = 0
    · subst hy
      have H := Lib.hid (hg.symm.trans (gc_zero x0))
      clear hg
      go_wp2
      go_ret
      exact ⟨ret_int H.out, hx⟩
    · have hy1 : (y == 0) = false := beq_eq_false_iff_ne.2 hy
      have hyp : 0 < y := by omega
      have m0 := Int.emod_nonneg x hy
      have m1 := Int.emod_lt_of_pos x hyp
      have HG := Lib.hid ((gc_step x0 hyp).trans hg)
      clear hg
      go_wp2_with fail
      go_quiet (fail)
      go_wp2
      go_roundw
      case rel => exact ⟨⟨y, x % y, by omega, by omega, by omega, by omega, HG.out, rfl, rfl⟩, hx.drewN _⟩
      case measure => simp [intOf]; omega
theorem gcdS_any (a b : Int) (w : World) (ha : 0 ≤ a) (ha2 : a ≤ 1000000000000000000) (hb : 0 ≤ b) (hb2 : b ≤ 1000000000000000000) :
    Calls Tryz.prog 315 #[.int .i64 a, .int .i64 b] w fun e w' => e = .returned (.int .i64 (gc a b)) ∧ Ext w w' := by
  go_enter Tryz.func315, Tryz.ntmps315
  go_wp2
  go_loopw [0, 1] (fun s t wr => RelG w (gc a b) 1000000000000000000 s t wr) (fun s t _ => (intOf t).toNat)
  case atStart => exact ⟨⟨a, b, ha, ha2, hb, hb2, rfl, rfl, rfl⟩, Ext.refl _⟩
  case round =>
    clear ha ha2 hb hb2
    obtain ⟨⟨x, y, x0, x1, y0, y1, hg, rfl, rfl⟩, hx⟩ := hrel
    by_cases hy : y = 0
    · subst hy
      have H := Lib.hid (hg.symm.trans (gc_zero x0))
      clear hg
      go_wp2
      go_ret
      exact ⟨ret_int H.out, hx⟩
    · have hyp : 0 < y := by omega
      have m0 := Int.emod_nonneg x hy
      have m1 := Int.emod_lt_of_pos x hyp
      have HG := Lib.hid ((gc_step x0 hyp).trans hg)
      clear hg hy
      go_wp2
      go_roundw
      case rel => exact ⟨⟨y, x % y, by omega, by omega, by omega, by omega, HG.out, rfl, rfl⟩, hx⟩
      case measure => simp [intOf]; omega
def ab (n : Int) : Int := if n < 0 then -n else n
theorem absolute_any (n : Int) (w : World) (h1 : -1000000000000000000 ≤ n) (h2 : n ≤ 1000000000000000000) :
    Calls Tryz.prog 162 #[.int .i64 n] w fun e w' => e = .returned (.int .i64 (ab n)) ∧ w = w' := by
  by_cases h : n < 0
  · have H := Lib.hid (show ab n = -n from if_pos h)
    go_enter Tryz.func162, Tryz.ntmps162
    go_wp2
    go_ret
    exact ⟨ret_int H.out, rfl⟩
  · have H := Lib.hid (show ab n = n from if_neg h)
    go_enter Tryz.func162, Tryz.ntmps162
    go_wp2
    go_ret
    exact ⟨ret_int H.out, rfl⟩
theorem absS_any (n : Int) (w : World) (h1 : -1000000000000000000 ≤ n) (h2 : n ≤ 1000000000000000000) :
    Calls Tryz.prog 259 #[.int .i64 n] w fun e w' => e = .returned (.int .i64 (ab n)) ∧ w = w' := by
  by_cases h : n < 0
  · have H := Lib.hid (show ab n = -n from if_pos h)
    go_enter Tryz.func259, Tryz.ntmps259
    go_wp2
    go_ret
    exact ⟨ret_int H.out, rfl⟩
  · have H := Lib.hid (show ab n = n from if_neg h)
    go_enter Tryz.func259, Tryz.ntmps259
    go_wp2
    go_ret
    exact ⟨ret_int H.out, rfl⟩
theorem lowestTerms_any (n d : Int) (w : World) (hn : 0 ≤ n) (hn2 : n ≤ 1000000000000000000) (hd : 1 ≤ d) (hd2 : d ≤ 1000000000000000000) :
    Calls Tryz.prog 294 #[.int .i64 n, .int .i64 d] w fun e w' => e = .returned (Pt (n / gc n d) (d / gc n d)) ∧ Ext w w' := by
  have hg := gc_pos (a := n) hd
  obtain ⟨g1, g2⟩ := div_bd hn hg
  obtain ⟨g3, g4⟩ := div_bd (show 0 ≤ d by omega) hg
  go_enter Tryz.func294, Tryz.ntmps294
  go_wp2_with fail
  refine (commonDivisor_any _ _ _ hn hn2 (by omega) hd2).mono ?_
  rintro e w1 ⟨rfl, hx⟩
  have B := Lib.hid ((Box.new2 (w := w) (n := w.heap.size) (x := .int .i64 0) (y := .int .i64 0) (t := 186) rfl).ext hx)
  obtain ⟨⟨c0, c1⟩, f0, f1⟩ := B.out.two
  go_wp2
  go_region
  go_wp2
  obtain ⟨⟨b0, b1⟩, _, _⟩ := ((B.out.set2 (u := .int .i64 (n / gc n d)) (v := .int .i64 (d / gc n d))).drew).two
  exact bodyPost_ret (v := Pt (n / gc n d) (d / gc n d)) (by simp [results, Tryz.results294, go_sem, b0, b1]) rfl ⟨rfl, (by repeat (first | exact Ext.refl _ | assumption | apply Ext.alloc | apply Ext.drew | (refine Ext.trans ?_ (by assumption)) | (refine Ext.setNew ?_ (by simp <;> omega) _)))⟩
theorem ratioS_any (n d : Int) (w : World) (hn : 0 ≤ n) (hn2 : n ≤ 1000000000000000000) (hd : 1 ≤ d) (hd2 : d ≤ 1000000000000000000) :
    Calls Tryz.prog 286 #[.int .i64 n, .int .i64 d] w fun e w' => e = .returned (Pt (n / gc n d) (d / gc n d)) ∧ Ext w w' := by
  have hg := gc_pos (a := n) hd
  obtain ⟨g1, g2⟩ := div_bd hn hg
  obtain ⟨g3, g4⟩ := div_bd (show 0 ≤ d by omega) hg
  have ha : ab n = n := if_neg (by omega)
  go_enter Tryz.func286, Tryz.ntmps286
  go_wp2_with fail
  refine (absS_any _ _ (by omega) (by omega)).mono ?_
  rintro e w1 ⟨rfl, rfl⟩
  rw [ha]
  go_wp2_with fail
  refine (gcdS_any _ _ _ hn hn2 (by omega) hd2).mono ?_
  rintro e w1 ⟨rfl, hx⟩
  have B := Lib.hid ((Box.new2 (w := w) (n := w.heap.size) (x := .int .i64 0) (y := .int .i64 0) (t := 186) rfl).ext hx)
  obtain ⟨⟨c0, c1⟩, f0, f1⟩ := B.out.two
  go_wp2
  go_region
  go_wp2
  obtain ⟨⟨b0, b1⟩, _, _⟩ := ((B.out.set2 (u := .int .i64 (n / gc n d)) (v := .int .i64 (d / gc n d))).drew).two
  exact bodyPost_ret (v := Pt (n / gc n d) (d / gc n d)) (by simp [results, Tryz.results286, go_sem, b0, b1]) rfl ⟨rfl, (by repeat (first | exact Ext.refl _ | assumption | apply Ext.alloc | apply Ext.drew | (refine Ext.trans ?_ (by assumption)) | (refine Ext.setNew ?_ (by simp <;> omega) _)))⟩
end Go.Proofs.YtmlojndkpnhalaaGreat.Gcd
namespace Go.Proofs.YtmlojndkpnhalaaGreat.Trk
open Go.ChangeShapes Go.WideShapes Go.ChangeAt Go.RowKit
open Go.Proofs.YtmlojndkpnhalaaGreat.Num Go.Proofs.YtmlojndkpnhalaaGreat.Kit Go.Proofs.YtmlojndkpnhalaaGreat.Pts
set_option linter.unusedVariables false
set_option linter.unusedSimpArgs false
structure F3 where
  t : Int
  x : Int
  y : Int
deriving DecidableEq
abbrev Fx (t x y : Int) : Value := .agg #[.int .i64 t, .int .i64 x, .int .i64 y]
abbrev Tr (s : Value) : Value := .agg #[s]
def fx (fs : List F3) (i : Nat) : F3 := fs.getD i ⟨0, 0, 0⟩
def At (w : World) (b o : Nat) (f : F3) : Prop := w.cell? ⟨b, o, none⟩ = some (.int .i64 f.t) ∧ w.cell? ⟨b, o + 1, none⟩ = some (.int .i64 f.x) ∧ w.cell? ⟨b, o + 2, none⟩ = some (.int .i64 f.y)
theorem At.ext {w w' : World} {b o : Nat} {f : F3} (h : At w b o f) (k : Ext w w') : At w' b o f := ⟨k.cellOf h.1, k.cellOf h.2.1, k.cellOf h.2.2⟩
def Fxs (w : World) (a : Option Addr) (fs : List F3) : Prop :=
  fs.length ≤ maxLen ∧ (fs = [] ∨ ∃ b off, a = some ⟨b, off, none⟩ ∧ ∀ i, i < fs.length → At w b (off + i * 3) (fx fs i))
theorem Fxs.ext {w w' : World} {a : Option Addr} {fs : List F3} (h : Fxs w a fs) (k : Ext w w') : Fxs w' a fs := by
  refine ⟨h.1, ?_⟩
  rcases h.2 with h | ⟨b, off, ha, h⟩
  · exact .inl h
  · exact .inr ⟨b, off, ha, fun i hi => (h i hi).ext k⟩
def Own (w : World) (B : Nat) (fs : List F3) : Prop := ∀ i, i < fs.length → At w B (i * 3) (fx fs i) ∧ w.frozen? ⟨B, i * 3, none⟩ = false ∧ w.frozen? ⟨B, i * 3 + 1, none⟩ = false ∧ w.frozen? ⟨B, i * 3 + 2, none⟩ = false
def szL (m : Int) (len : Nat) : Int := if m - len < 0 then -1 else m - len
theorem szL_neg {m : Int} {len : Nat} (h : m - len < 0) : szL m len = -1 := if_pos h
theorem szL_pos {m : Int} {len : Nat} (h : ¬ m - len < 0) : szL m len = m - len := if_neg h
theorem szFixS_any (a : Option Addr) (len cap : Nat) (m : Int) (w : World) (hl : len ≤ maxLen) (h0 : 0 ≤ m) (hm : m ≤ 1048576) :
    Calls Tryz.prog 107 #[.slice a len cap, .int .i64 m] w fun e w' => e = .returned (.int .i64 (szL m len)) ∧ w = w' := by
  unfold maxLen at hl
  by_cases h : m - len < 0
  · have H := Lib.hid (szL_neg h)
    go_enter Tryz.func107, Tryz.ntmps107
    go_wp2
    go_ret
    exact ⟨ret_int H.out, rfl⟩
  · have H := Lib.hid (szL_pos h)
    go_enter Tryz.func107, Tryz.ntmps107
    go_wp2
    go_ret
    exact ⟨ret_int H.out, rfl⟩
theorem szTrack_any (a : Option Addr) (len cap : Nat) (m : Int) (w : World) (hl : len ≤ maxLen) (h0 : 0 ≤ m) (hm : m ≤ 1048576) :
    Calls Tryz.prog 49 #[Tr (.slice a len cap), .int .i64 m] w fun e w' => e = .returned (.int .i64 (szL m len)) ∧ Ext w w' := by
  have HL := Lib.hid hl
  by_cases h : m - len < 0
  · have H := Lib.hid (szL_neg h)
    go_enter Tryz.func49, Tryz.ntmps49
    go_wp2_with (go_at_call 107; refine (szFixS_any _ _ _ _ _ HL.out h0 hm).mono ?_; rw [H.out]; rintro e w1 ⟨rfl, rfl⟩)
    go_ret
    exact ⟨ret_int H.out, (by repeat (first | exact Ext.refl _ | assumption | apply Ext.alloc | apply Ext.drew | (refine Ext.trans ?_ (by assumption)) | (refine Ext.setNew ?_ (by simp <;> omega) _)))⟩
  · have H := Lib.hid (szL_pos h)
    go_enter Tryz.func49, Tryz.ntmps49
    go_wp2_with (go_at_call 107; refine (szFixS_any _ _ _ _ _ HL.out h0 hm).mono ?_; rw [H.out]; rintro e w1 ⟨rfl, rfl⟩)
    go_ret
    exact ⟨ret_int H.out, (by repeat (first | exact Ext.refl _ | assumption | apply Ext.alloc | apply Ext.drew | (refine Ext.trans ?_ (by assumption)) | (refine Ext.setNew ?_ (by simp <;> omega) _)))⟩
theorem toFix_any (t x y : Int) (w : World) : Calls Tryz.prog 181 #[Fx t x y] w fun e w' => e = .returned (Fx t x y) ∧ Ext w w' := by
  go_enter Tryz.func181, Tryz.ntmps181
  go_wp2
  exact bodyPost_ret (v := Fx t x y) (by simp [results, Tryz.results181, go_sem]) rfl ⟨rfl, (by repeat (first | exact Ext.refl _ | assumption | apply Ext.alloc | apply Ext.drew | (refine Ext.trans ?_ (by assumption)) | (refine Ext.setNew ?_ (by simp <;> omega) _)))⟩
def eqF (f g : F3) : Bool := (f.t == g.t) && ((f.x == g.x) && (f.y == g.y))
theorem eqFix_any (t x y u p q : Int) (w : World) : Calls Tryz.prog 182 #[Fx t x y, Fx u p q] w fun e w' => e = .returned (.bool (eqF ⟨t, x, y⟩ ⟨u, p, q⟩)) ∧ Ext w w' := by
  have H := Lib.hid (show eqF ⟨t, x, y⟩ ⟨u, p, q⟩ = ((t == u) && ((x == p) && (y == q))) from rfl)
  cases h1 : (t == u)
  · rw [h1] at H
    have h1' : (t != u) = true := by simp [bne, h1]
    go_enter Tryz.func182, Tryz.ntmps182
    go_wp2
    go_ret
    exact ⟨ret_bool H.out, (by repeat (first | exact Ext.refl _ | assumption | apply Ext.alloc | apply Ext.drew | (refine Ext.trans ?_ (by assumption)) | (refine Ext.setNew ?_ (by simp <;> omega) _)))⟩
  · rw [h1] at H
    have h1' : (t != u) = false := by simp [bne, h1]
    cases h2 : (x == p)
    · rw [h2] at H
      have h2' : (x != p) = true := by simp [bne, h2]
      go_enter Tryz.func182, Tryz.ntmps182
      go_wp2
      go_ret
      exact ⟨ret_bool H.out, (by repeat (first | exact Ext.refl _ | assumption | apply Ext.alloc | apply Ext.drew | (refine Ext.trans ?_ (by assumption)) | (refine Ext.setNew ?_ (by simp <;> omega) _)))⟩
    · rw [h2] at H
      have h2' : (x != p) = false := by simp [bne, h2]
      cases h3 : (y == q)
      · rw [h3] at H
        have h3' : (y != q) = true := by simp [bne, h3]
        go_enter Tryz.func182, Tryz.ntmps182
        go_wp2
        go_ret
        exact ⟨ret_bool H.out, (by repeat (first | exact Ext.refl _ | assumption | apply Ext.alloc | apply Ext.drew | (refine Ext.trans ?_ (by assumption)) | (refine Ext.setNew ?_ (by simp <;> omega) _)))⟩
      · rw [h3] at H
        have h3' : (y != q) = false := by simp [bne, h3]
        go_enter Tryz.func182, Tryz.ntmps182
        go_wp2
        go_ret
        exact ⟨ret_bool H.out, (by repeat (first | exact Ext.refl _ | assumption | apply Ext.alloc | apply Ext.drew | (refine Ext.trans ?_ (by assumption)) | (refine Ext.setNew ?_ (by simp <;> omega) _)))⟩
def NewF (w : World) (fs : List F3) (e : Ending) (w' : World) : Prop := ∃ B, e = .returned (.slice (some ⟨B, 0, none⟩) fs.length fs.length) ∧ w.heap.size ≤ B ∧ Own w' B fs ∧ Ext w w'
def RelT (w : World) (fs : List F3) (i : Value) (wr : World) : Prop :=
  ∃ k : Nat, i = .int .i64 k ∧ k ≤ fs.length ∧ (∀ j, j < fs.length * 3 → (∃ v, wr.cell? ⟨w.heap.size, j, none⟩ = some v) ∧ wr.frozen? ⟨w.heap.size, j, none⟩ = false) ∧ (∀ j, j < k → At wr w.heap.size (j * 3) (fx fs j)) ∧ Ext w wr
theorem RelT.step {w wr w2 : World} {fs : List F3} {k : Nat} (hk : k < fs.length) (hc : ∀ j, j < fs.length * 3 → (∃ v, wr.cell? ⟨w.heap.size, j, none⟩ = some v) ∧ wr.frozen? ⟨w.heap.size, j, none⟩ = false)
    (hd : ∀ j, j < k → At wr w.heap.size (j * 3) (fx fs j)) (hx : Ext w wr) (hy : Ext wr w2) :
    RelT w fs (.int .i64 (k + 1)) (((w2.setCell ⟨w.heap.size, k * 3, none⟩ (.int .i64 (fx fs k).t)).setCell ⟨w.heap.size, k * 3 + 1, none⟩ (.int .i64 (fx fs k).x)).setCell ⟨w.heap.size, k * 3 + 2, none⟩ (.int .i64 (fx fs k).y)) := by
  obtain ⟨⟨v0, d0⟩, f0⟩ := hc (k * 3) (by omega)
  obtain ⟨⟨v1, d1⟩, f1⟩ := hc (k * 3 + 1) (by omega)
  obtain ⟨⟨v2, d2⟩, f2⟩ := hc (k * 3 + 2) (by omega)
  have other : ∀ (W : World) (p q : Nat) (u : Value), p ≠ q → (W.setCell ⟨w.heap.size, p, none⟩ u).cell? ⟨w.heap.size, q, none⟩ = W.cell? ⟨w.heap.size, q, none⟩ := fun W p q u h => World.cell?_setCell_other _ _ _ _ (by simp <;> omega)
  refine ⟨k + 1, by go_num, by omega, fun j hj => ?_, fun j hj => ?_, ?_⟩
  · obtain ⟨⟨v, hv⟩, hf⟩ := hc j hj
    refine ⟨?_, by simp only [World.frozen?_setCell]; exact hy.thawOf hv hf⟩
    by_cases h2 : k * 3 + 2 = j
    · subst h2; exact ⟨_, World.cell?_setCell_same _ _ _ (by rw [other _ _ _ _ (by omega), other _ _ _ _ (by omega)]; exact hy.cellOf d2)⟩
    · rw [other _ _ _ _ h2]
      by_cases h1 : k * 3 + 1 = j
      · subst h1; exact ⟨_, World.cell?_setCell_same _ _ _ (by rw [other _ _ _ _ (by omega)]; exact hy.cellOf d1)⟩
      · rw [other _ _ _ _ h1]
        by_cases h0 : k * 3 = j
        · subst h0; exact ⟨_, World.cell?_setCell_same _ _ _ (hy.cellOf d0)⟩
        · rw [other _ _ _ _ h0]; exact ⟨_, hy.cellOf hv⟩
  · by_cases h : j = k
    · subst h
      refine ⟨?_, ?_, ?_⟩
      · rw [other _ _ _ _ (by omega), other _ _ _ _ (by omega)]; exact World.cell?_setCell_same _ _ _ (hy.cellOf d0)
      · rw [other _ _ _ _ (by omega)]; exact World.cell?_setCell_same _ _ _ (by rw [other _ _ _ _ (by omega)]; exact hy.cellOf d1)
      · exact World.cell?_setCell_same _ _ _ (by rw [other _ _ _ _ (by omega), other _ _ _ _ (by omega)]; exact hy.cellOf d2)
    · obtain ⟨g0, g1, g2⟩ := (hd j (by omega)).ext hy
      refine ⟨?_, ?_, ?_⟩
      all_goals
        rw [other _ _ _ _ (by omega), other _ _ _ _ (by omega), other _ _ _ _ (by omega)]; assumption
  · exact (((hx.trans hy).setNew (Nat.le_refl _) _).setNew (Nat.le_refl _) _).setNew (Nat.le_refl _) _
theorem fixInfo : (Tryz.prog.info? 53).map (fun i => (i.zero, i.size, i.bytes)) = some (some (Fx 0 0 0), 3, 24) := by kernel_rfl
theorem Ext.grown {w w' : World} (h : w.grownBy w' none) : Ext w w' := by
  obtain ⟨h1, h2, h3, h4, h5⟩ := h
  exact ⟨h1, h2, h3, h4, fun i hi => h5 i hi (by simp)⟩
theorem madeAt {w' : World} {e : TypeId} {n b g : Nat} {z : Value} (h : w'.ownsRow b e 3 (.slice (some ⟨g, 0, none⟩) n n) n (madeCells z.cells (n * 3)).toList) (j : Nat) (hj : j < n * 3) :
    (∃ v, w'.cell? ⟨g, j, none⟩ = some v) ∧ w'.frozen? ⟨g, j, none⟩ = false := by
  refine ⟨?_, h.frozenAt j⟩
  rw [h.cellAt j hj]
  exact ⟨_, List.getElem?_eq_getElem (by simpa [size_madeCells] using hj)⟩
set_option maxHeartbeats 400000 in
theorem toFixS_any (a : Option Addr) (cap : Nat) (fs : List F3) (w : World) (hf : Fxs w a fs) (hl : fs.length ≤ 1048576) : Calls Tryz.prog 108 #[.slice a fs.length cap] w (NewF w fs) := by
  have HF := Lib.hid hf
  have hm : fs.length ≤ 1000000000 := by omega
  clear hf hl
  obtain ⟨i0, hi, hz0, hz1, hz2⟩ := info_parts fixInfo
  go_enter Tryz.func108, Tryz.ntmps108
  go_wp2_with (at_make; refine wpList_make_full _ rfl _ _ 31 rfl w.heap.size 53 i0 (Fx 0 0 0) 3 Tryz.underlying31 hi hz0 hz1 _ _ _ _ fs.length rfl rfl rfl rfl (by rw [hz2]; omega) (by unfold maxLen; omega) (Nat.le_refl _) ?_; intro w1 hown hgrow)
  have HO := Lib.hid hown
  have HG := Lib.hid (Ext.grown hgrow)
  clear hown hgrow
  go_loopw [4] (fun i wr => RelT w fs i wr) (fun i _ => fs.length - (intOf i).toNat)
  case atStart => exact ⟨0, rfl, Nat.zero_le _, fun j hj => madeAt HO.out j hj, fun j hj => absurd hj (by omega), HG.out⟩
  case round =>
    obtain ⟨k, rfl, hk, hc, hd, hx⟩ := hrel
    have HC := Lib.hid hc
    have HD := Lib.hid hd
    have HX := Lib.hid hx
    clear hc hd hx
    by_cases hk1 : k < fs.length
    · rcases HF.out.2 with h0 | ⟨b, off, rfl, hb⟩
      · rw [h0] at hk1; simp at hk1
      have HB := Lib.hid hb
      clear hb
      obtain ⟨c0, c1, c2⟩ := (HB.out k hk1).ext HX.out
      go_wp2_with fail
      refine (toFix_any _ _ _ _).mono ?_
      rintro e w2 ⟨rfl, hy⟩
      obtain ⟨⟨v0, d0⟩, f0⟩ := HC.out (k * 3) (by omega)
      obtain ⟨⟨v1, d1⟩, f1⟩ := HC.out (k * 3 + 1) (by omega)
      obtain ⟨⟨v2, d2⟩, f2⟩ := HC.out (k * 3 + 2) (by omega)
      replace f0 := hy.thawOf d0 f0
      replace f1 := hy.thawOf d1 f1
      replace f2 := hy.thawOf d2 f2
      replace d0 := hy.cellOf d0
      replace d1 := hy.cellOf d1
      replace d2 := hy.cellOf d2
      have HY := Lib.hid hy
      clear hy c0 c1 c2
      go_wp2
      go_roundw
      case rel => exact RelT.step hk1 HC.out HD.out HX.out HY.out
      case measure => simp [intOf]; omega
    · obtain rfl : k = fs.length := by omega
      go_wp2
      go_ret
      exact ⟨w.heap.size, rfl, Nat.le_refl _, fun j hj => ⟨HD.out j hj, (HC.out _ (by omega)).2, (HC.out _ (by omega)).2, (HC.out _ (by omega)).2⟩, HX.out⟩
def NewT (w : World) (fs : List F3) (e : Ending) (w' : World) : Prop := ∃ B, e = .returned (Tr (.slice (some ⟨B, 0, none⟩) fs.length fs.length)) ∧ w.heap.size ≤ B ∧ Own w' B fs ∧ Ext w w'
theorem Own.ext {w w' : World} {B : Nat} {fs : List F3} (h : Own w B fs) (k : Ext w w') : Own w' B fs :=
  fun i hi => ⟨(h i hi).1.ext k, k.thawOf (h i hi).1.1 (h i hi).2.1, k.thawOf (h i hi).1.2.1 (h i hi).2.2.1, k.thawOf (h i hi).1.2.2 (h i hi).2.2.2⟩
theorem Own.fxs {w : World} {B : Nat} {fs : List F3} (h : Own w B fs) (hl : fs.length ≤ maxLen) : Fxs w (some ⟨B, 0, none⟩) fs :=
  ⟨hl, .inr ⟨B, 0, rfl, fun i hi => by rw [Nat.zero_add]; exact (h i hi).1⟩⟩
theorem Own.away {w w' : World} {B n : Nat} {fs : List F3} (h : Own w B fs) (k : Chg n w w') (hn : B ≠ n) : Own w' B fs :=
  fun i hi => ⟨⟨k.cellOf hn (h i hi).1.1, k.cellOf hn (h i hi).1.2.1, k.cellOf hn (h i hi).1.2.2⟩, k.thawOf hn (h i hi).1.1 (h i hi).2.1, k.thawOf hn (h i hi).1.2.1 (h i hi).2.2.1, k.thawOf hn (h i hi).1.2.2 (h i hi).2.2.2⟩
theorem toTrack_any (a : Option Addr) (cap : Nat) (fs : List F3) (w : World) (hf : Fxs w a fs) (hl : fs.length ≤ 1048576) : Calls Tryz.prog 51 #[Tr (.slice a fs.length cap)] w (NewT w fs) := by
  have HF := Lib.hid hf
  have HL := Lib.hid hl
  clear hf hl
  go_enter Tryz.func51, Tryz.ntmps51
  go_wp2_with fail
  refine (toFixS_any _ _ _ _ (HF.out.ext (by repeat (first | exact Ext.refl _ | assumption | apply Ext.alloc | apply Ext.drew | (refine Ext.trans ?_ (by assumption)) | (refine Ext.setNew ?_ (by simp <;> omega) _)))) HL.out).mono ?_
  rintro e w1 ⟨B, rfl, hB, hO, hx⟩
  have HO := Lib.hid hO
  have HX := Lib.hid hx
  simp at hB
  clear hO
  obtain ⟨hc, hf⟩ := hx.facts; have hz := hx.size; (try simp at hz); (try (have hz0 : w.heap.size < w1.heap.size := by omega)); (try (have hz1 : w.heap.size + 1 < w1.heap.size := by omega)); (try (have hz2 : w.heap.size + 1 + 1 < w1.heap.size := by omega)); (try (have hz3 : w.heap.size + 1 + 1 + 1 < w1.heap.size := by omega))
  clear hx
  go_wp2
  have HB := Lib.hid hB
  clear hB
  have g0 : w1.cell? ⟨w.heap.size + 1, 0, none⟩ = some (.slice none 0 0) := HX.out.cellOf (((Ext.refl _).alloc _).cellOf (boxed 0 rfl (by simp)))
  refine bodyPost_ret (v := Tr (.slice (some ⟨B, 0, none⟩) fs.length fs.length)) (by simp [results, Tryz.results51, go_sem, g0]) rfl ⟨B, rfl, by have := HB.out; omega, ?_, ?_⟩
  · exact (HO.out.away ((Chg.refl _ _).setCell 0 _) (by have := HB.out; omega)).away ((Chg.refl _ _).setCell 0 _) (by have := HB.out; omega)
  · exact ((((((Ext.refl w).alloc _).alloc _).alloc _).trans HX.out).setNew (p := ⟨w.heap.size + 1 + 1, 0, none⟩) (by simp <;> omega) _).setNew (p := ⟨w.heap.size + 1, 0, none⟩) (by simp) _
def RelE (w : World) (n : Nat) (i : Value) (wr : World) : Prop := ∃ k : Nat, i = .int .i64 k ∧ k ≤ n ∧ Ext w wr
theorem eqFix_same (t x y : Int) (w : World) : Calls Tryz.prog 182 #[Fx t x y, Fx t x y] w fun e w' => e = .returned (.bool true) ∧ Ext w w' := by
  have h := eqFix_any t x y t x y w
  rw [show eqF ⟨t, x, y⟩ ⟨t, x, y⟩ = true by simp [eqF]] at h
  exact h
theorem eqFixS_same (a b : Option Addr) (cap cap' : Nat) (fs : List F3) (w : World) (ha : Fxs w a fs) (hb : Fxs w b fs) : Calls Tryz.prog 109 #[.slice a fs.length cap, .slice b fs.length cap'] w fun e w' => e = .returned (.bool true) ∧ Ext w w' := by
  have hm := ha.1
  unfold maxLen at hm
  have HA := Lib.hid ha
  have HB := Lib.hid hb
  clear ha hb
  go_enter Tryz.func109, Tryz.ntmps109
  go_wp2
  go_loopw [5] (fun i wr => RelE w fs.length i wr) (fun i _ => fs.length - (intOf i).toNat)
  case atStart => exact ⟨0, rfl, Nat.zero_le _, Ext.refl _⟩
  case round =>
    obtain ⟨k, rfl, hk, hx⟩ := hrel
    have HX := Lib.hid hx
    clear hx
    by_cases hk1 : k < fs.length
    · rcases HA.out.2 with h0 | ⟨b1, o1, rfl, h1⟩
      · rw [h0] at hk1; simp at hk1
      rcases HB.out.2 with h0 | ⟨b2, o2, rfl, h2⟩
      · rw [h0] at hk1; simp at hk1
      obtain ⟨c0, c1, c2⟩ := (h1 k hk1).ext HX.out
      obtain ⟨d0, d1, d2⟩ := (h2 k hk1).ext HX.out
      clear h1 h2
      have i0 : (0 : Int) ≤ (k : Int) := by omega
      have i1 : (k : Int) < (fs.length : Int) := by omega
      go_wp2_with fail
      go_region_held3 (fun w' => w'.cell? ⟨b1, o1 + k * 3, none⟩ = some (.int .i64 (fx fs k).t) ∧ w'.cell? ⟨b1, o1 + k * 3 + 1, none⟩ = some (.int .i64 (fx fs k).x) ∧ w'.cell? ⟨b1, o1 + k * 3 + 2, none⟩ = some (.int .i64 (fx fs k).y) ∧ w'.cell? ⟨b2, o2 + k * 3, none⟩ = some (.int .i64 (fx fs k).t) ∧ w'.cell? ⟨b2, o2 + k * 3 + 1, none⟩ = some (.int .i64 (fx fs k).x) ∧ w'.cell? ⟨b2, o2 + k * 3 + 2, none⟩ = some (.int .i64 (fx fs k).y))
        (first | go_keep | (go_split_ands; refine ⟨?_, ?_, ?_, ?_, ?_, ?_⟩ <;> exact Ext.cellOf hy (by assumption)))
        (first | (go_at_call 182; refine (eqFix_same _ _ _ _).mono ?_; rintro e w1 ⟨rfl, hy⟩))
      have HX2 := Lib.hid (HX.out.drew.trans hy)
      clear hy c0 c1 c2 d0 d1 d2
      go_wp2
      go_roundw
      case rel => exact ⟨k + 1, by go_num, by omega, HX2.out⟩
      case measure => simp [intOf]; omega
    · obtain rfl : k = fs.length := by omega
      go_wp2
      go_ret
      exact ⟨rfl, HX.out⟩
theorem eqTrack_same (a b : Option Addr) (cap cap' : Nat) (fs : List F3) (w : World) (ha : Fxs w a fs) (hb : Fxs w b fs) : Calls Tryz.prog 53 #[Tr (.slice a fs.length cap), Tr (.slice b fs.length cap')] w fun e w' => e = .returned (.bool true) ∧ Ext w w' := by
  have HA := Lib.hid ha
  have HB := Lib.hid hb
  clear ha hb
  go_enter Tryz.func53, Tryz.ntmps53
  go_wp2_with fail
  refine (eqFixS_same _ _ _ _ _ _ (HA.out.ext (by repeat (first | exact Ext.refl _ | assumption | apply Ext.alloc | apply Ext.drew | (refine Ext.trans ?_ (by assumption)) | (refine Ext.setNew ?_ (by simp <;> omega) _)))) (HB.out.ext (by repeat (first | exact Ext.refl _ | assumption | apply Ext.alloc | apply Ext.drew | (refine Ext.trans ?_ (by assumption)) | (refine Ext.setNew ?_ (by simp <;> omega) _))))).mono ?_
  rintro e w1 ⟨rfl, hx⟩
  go_wp2
  go_ret
  exact ⟨rfl, (by repeat (first | exact Ext.refl _ | assumption | apply Ext.alloc | apply Ext.drew | (refine Ext.trans ?_ (by assumption)) | (refine Ext.setNew ?_ (by simp <;> omega) _)))⟩
end Go.Proofs.YtmlojndkpnhalaaGreat.Trk
namespace Go.Proofs.YtmlojndkpnhalaaGreat.Pts
open Go.ChangeShapes Go.WideShapes Go.ChangeAt Go.RowKit
open Go.Proofs.YtmlojndkpnhalaaGreat.Num Go.Proofs.YtmlojndkpnhalaaGreat.Kit
set_option linter.unusedVariables false
theorem isHullLength_any (n : Int) (w : World) : Calls Tryz.prog 165 #[.int .i64 n] w fun e w' => e = .returned (.bool (inB n 1 1000)) ∧ w = w' := by
  by_cases h1 : 1 ≤ n
  · by_cases h2 : n ≤ 1000
    · have H := Lib.hid (inB_yes h1 h2)
      go_enter Tryz.func165, Tryz.ntmps165
      go_wp2
      go_ret
      exact ⟨ret_bool H.out, rfl⟩
    · have H := Lib.hid (inB_no (n := n) (lo := 1) (hi := 1000) (fun h => h2 h.2))
      go_enter Tryz.func165, Tryz.ntmps165
      go_wp2
      go_ret
      exact ⟨ret_bool H.out, rfl⟩
  · have H := Lib.hid (inB_no (n := n) (lo := 1) (hi := 1000) (fun h => h1 h.1))
    go_enter Tryz.func165, Tryz.ntmps165
    go_wp2
    go_ret
    exact ⟨ret_bool H.out, rfl⟩
end Go.Proofs.YtmlojndkpnhalaaGreat.Pts
