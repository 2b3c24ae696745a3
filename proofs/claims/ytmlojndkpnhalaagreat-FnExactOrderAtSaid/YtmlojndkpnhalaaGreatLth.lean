import Derived.Test.YtmlojndkpnhalaaGreatMPts
import Derived.Test.YtmlojndkpnhalaaGreatMRoot
namespace Go.Proofs.YtmlojndkpnhalaaGreat.Lth
open Go.ChangeShapes Go.WideShapes Go.ChangeAt Go.RowKit
open Go.Proofs.YtmlojndkpnhalaaGreat.Num Go.Proofs.YtmlojndkpnhalaaGreat.Kit Go.Proofs.YtmlojndkpnhalaaGreat.Pts Go.Proofs.YtmlojndkpnhalaaGreat.Root Go.Proofs.YtmlojndkpnhalaaGreat.Rt
set_option linter.unusedVariables false
set_option linter.unusedSimpArgs false
theorem sq_nn (x : Int) : 0 ≤ x * x := by
  rcases Int.le_total 0 x with h | h
  · exact Int.mul_nonneg h h
  · have q := Int.mul_nonneg (show 0 ≤ -x by omega) (show 0 ≤ -x by omega)
    rwa [Int.neg_mul_neg] at q
theorem sq_pos {x : Int} (h : x ≠ 0) : 1 ≤ x * x := by
  have h0 := sq_nn x
  have h1 : x * x ≠ 0 := fun e => by rcases Int.mul_eq_zero.1 e with e | e <;> exact h e
  omega
theorem sqs_bd {x y : Int} (hx : -2000000 ≤ x ∧ x ≤ 2000000) (hy : -2000000 ≤ y ∧ y ≤ 2000000) : 0 ≤ x * x + y * y ∧ x * x + y * y ≤ 8000000000000 := by
  obtain ⟨_, a⟩ := mul_bd 2000000 2000000 hx hx
  obtain ⟨_, b⟩ := mul_bd 2000000 2000000 hy hy
  have c := sq_nn x
  have d := sq_nn y
  simp only [Int.reduceMul] at a b
  omega
def ln2 (x y : Int) : Int := rt (x * x + y * y)
theorem rt_small {n : Int} (h0 : 0 ≤ n) (h : n ≤ 8000000000000) : 0 ≤ rt n ∧ rt n ≤ 8000000000000 := by
  refine ⟨rt_nonneg n, ?_⟩
  have := rt_sq h0
  have := rt_nonneg n
  by_cases g : rt n = 0
  · omega
  · have h1 := Int.mul_le_mul_of_nonneg_left (show 1 ≤ rt n by omega) (rt_nonneg n)
    rw [Int.mul_one] at h1
    omega
theorem ln2_pos {x y : Int} (hx : -2000000 ≤ x ∧ x ≤ 2000000) (hy : -2000000 ≤ y ∧ y ≤ 2000000) (h : ¬ (x = 0 ∧ y = 0)) : 1 ≤ ln2 x y ∧ ln2 x y ≤ 8000000000000 := by
  obtain ⟨b0, b1⟩ := sqs_bd hx hy
  refine ⟨rt_max (by omega) ?_, (rt_small b0 b1).2⟩
  by_cases hx0 : x = 0
  · have := sq_pos (show y ≠ 0 from fun e => h ⟨hx0, e⟩); have := sq_nn x; omega
  · have := sq_pos hx0; have := sq_nn y; omega
theorem length_any (x y : Int) (w : World) (hx : -2000000 ≤ x ∧ x ≤ 2000000) (hy : -2000000 ≤ y ∧ y ≤ 2000000) :
    Calls Tryz.prog 317 #[Pt x y] w fun e w' => e = .returned (.int .i64 (ln2 x y)) ∧ Ext w w' := by
  obtain ⟨b0, b1⟩ := sqs_bd hx hy
  unfold ln2
  have PS := Lib.hid (fun w => squareLength_any x y w hx hy)
  obtain ⟨Q, hQ⟩ : ∃ Q, Q = x * x + y * y := ⟨_, rfl⟩
  rw [← hQ] at PS b0 b1 ⊢
  clear hQ
  have PR := Lib.hid (fun w => rootOf_in Q w b0 (by omega))
  obtain ⟨R, hR⟩ : ∃ R, R = rt Q := ⟨_, rfl⟩
  rw [← hR] at PR ⊢
  clear hR
  go_enter Tryz.func317, Tryz.ntmps317
  go_wp2_with fail
  refine (PS.out _).mono ?_
  rintro e w1 ⟨rfl, hx1⟩
  go_wp2_with fail
  refine (PR.out _).mono ?_
  rintro e w2 ⟨rfl, rfl⟩
  go_wp2
  go_ret
  exact ⟨rfl, (by repeat (first | exact Ext.refl _ | assumption | apply Ext.alloc | apply Ext.drew | (refine Ext.trans ?_ (by assumption)) | (refine Ext.setNew ?_ (by simp <;> omega) _)))⟩
end Go.Proofs.YtmlojndkpnhalaaGreat.Lth
