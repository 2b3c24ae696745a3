import Derived.Test.YtnjjmoefiacbhaaPos
namespace Go.Proofs.Ytnjjmoefiacbhaa.Trk
open Go.ChangeShapes Go.WideShapes Go.ChangeAt Go.RowKit
open Go.Proofs.Ytnjjmoefiacbhaa.Num Go.Proofs.Ytnjjmoefiacbhaa.Kit Go.Proofs.Ytnjjmoefiacbhaa.Pts Go.Proofs.Ytnjjmoefiacbhaa.Seg Go.Proofs.Ytnjjmoefiacbhaa.Div
set_option linter.unusedVariables false
set_option linter.unusedSimpArgs false
theorem pa_zero (y n : Int) : pa 0 y n = 0 := by unfold pa; simp
theorem pa_all {y : Int} (h : 1 ≤ y) (n : Int) : pa y y n = n := by unfold pa; exact Int.mul_ediv_cancel _ (by omega)
theorem pa_pos {x y n : Int} (k1 : 0 ≤ x) (k2 : x ≤ y) (d1 : 1 ≤ y) (hn : 0 ≤ n) : 0 ≤ pa x y n ∧ pa x y n ≤ n := by
  unfold pa
  refine ⟨Int.ediv_nonneg (Int.mul_nonneg hn k1) (by omega), ?_⟩
  have h := Int.ediv_le_ediv (show 0 < y by omega) (Int.mul_le_mul_of_nonneg_left k2 hn)
  rw [Int.mul_ediv_cancel _ (by omega)] at h
  exact h
theorem pa_neg {x y n : Int} (k1 : 0 ≤ x) (k2 : x ≤ y) (d1 : 1 ≤ y) (hn : n ≤ 0) : n ≤ pa x y n ∧ pa x y n ≤ 0 := by
  unfold pa
  constructor
  · refine Int.le_ediv_of_mul_le (by omega) ?_
    have h := Int.mul_le_mul_of_nonneg_left k2 (show 0 ≤ -n by omega)
    rw [Int.neg_mul, Int.neg_mul] at h
    omega
  · have h : n * x ≤ 0 := by
      have h := Int.mul_le_mul_of_nonneg_right hn k1
      rwa [Int.zero_mul] at h
    have h2 := Int.ediv_le_ediv (show 0 < y by omega) h
    rwa [Int.zero_ediv] at h2
theorem legUp_self {fs : List F3} (hv : trB fs = true) (k : Nat) : ∀ n, k < n → n < fs.length → legUp fs (fx fs k).t n = k
  | 0, h, _ => absurd h (by omega)
  | n + 1, h, hn => by
    unfold legUp
    by_cases e : k = n
    · subst e; rw [if_pos (Int.le_refl _)]
    · rw [if_neg (by have := times_lt hv k n (by omega) (by omega); omega)]
      exact legUp_self hv k n (by omega) (by omega)
theorem legOf_self {fs : List F3} (hv : trB fs = true) {k : Nat} (hk : k + 1 < fs.length) : legOf fs (fx fs k).t = k := legUp_self hv k (fs.length - 1) (by omega) (by omega)
theorem legOf_end {fs : List F3} (hv : trB fs = true) {k : Nat} (hk : k + 1 = fs.length - 1) : legOf fs (fx fs (k + 1)).t = k := by
  unfold legOf
  rw [← hk, legUp, if_pos (by have := times_lt hv k (k + 1) (by omega) (by have := (trB_yes hv).1; omega); omega)]
theorem lastB_fix {fs : List F3} (hv : trB fs = true) {k : Nat} (hk : k < fs.length) : lastB fs (fx fs k).t = true := by
  have a := times_le hv 0 k (by omega) hk
  have b := times_le hv k (fs.length - 1) (by omega) (by omega)
  exact inB_yes a b
theorem po_fix {fs : List F3} (hv : trB fs = true) {k : Nat} (hk : k < fs.length) : ctI fs (fx fs k).t = 0 ∧ poX fs (fx fs k).t = (fx fs k).x ∧ poY fs (fx fs k).t = (fx fs k).y := by
  have hc := ctI_in hv (lastB_fix hv hk)
  obtain ⟨⟨h2, _⟩, _⟩ := trB_yes hv
  refine ⟨hc, ?_⟩
  obtain ⟨e1, e2⟩ := po_yes hc
  rw [e1, e2]
  by_cases h : k + 1 < fs.length
  · rw [legOf_self hv h]
    unfold pkX pkY
    rw [Int.sub_self, pa_zero, pa_zero, Int.add_zero, Int.add_zero]
    exact ⟨rfl, rfl⟩
  · obtain ⟨j, rfl⟩ : ∃ j, k = j + 1 := ⟨k - 1, by omega⟩
    rw [legOf_end hv (by omega)]
    have d := (leg_bounds hv (k := j) (by omega)).2.1
    unfold pkX pkY
    rw [show (fx fs (j + 1)).t - (fx fs j).t = durI fs j from rfl, pa_all d, pa_all d]
    unfold hdX hdY
    exact ⟨by omega, by omega⟩
theorem pk_between {fs : List F3} {t : Int} (hv : trB fs = true) (hl : lastB fs t = true) :
    (((fx fs (legOf fs t)).x ≤ pkX fs t (legOf fs t) ∧ pkX fs t (legOf fs t) ≤ (fx fs (legOf fs t + 1)).x) ∨ ((fx fs (legOf fs t + 1)).x ≤ pkX fs t (legOf fs t) ∧ pkX fs t (legOf fs t) ≤ (fx fs (legOf fs t)).x)) ∧
    (((fx fs (legOf fs t)).y ≤ pkY fs t (legOf fs t) ∧ pkY fs t (legOf fs t) ≤ (fx fs (legOf fs t + 1)).y) ∨ ((fx fs (legOf fs t + 1)).y ≤ pkY fs t (legOf fs t) ∧ pkY fs t (legOf fs t) ≤ (fx fs (legOf fs t)).y)) := by
  obtain ⟨⟨h2, _⟩, _⟩ := trB_yes hv
  have hk := legOf_lt t h2
  obtain ⟨_, d0, _⟩ := leg_bounds hv hk
  obtain ⟨t0, t1⟩ := leg_in hv hl
  have y1 : t - (fx fs (legOf fs t)).t ≤ durI fs (legOf fs t) := by unfold durI; omega
  constructor
  · unfold pkX
    by_cases h : 0 ≤ hdX fs (legOf fs t)
    · have := pa_pos (x := t - (fx fs (legOf fs t)).t) (by omega) y1 d0 h
      unfold hdX at *
      exact .inl ⟨by omega, by omega⟩
    · have := pa_neg (x := t - (fx fs (legOf fs t)).t) (by omega) y1 d0 (show hdX fs (legOf fs t) ≤ 0 by omega)
      unfold hdX at *
      exact .inr ⟨by omega, by omega⟩
  · unfold pkY
    by_cases h : 0 ≤ hdY fs (legOf fs t)
    · have := pa_pos (x := t - (fx fs (legOf fs t)).t) (by omega) y1 d0 h
      unfold hdY at *
      exact .inl ⟨by omega, by omega⟩
    · have := pa_neg (x := t - (fx fs (legOf fs t)).t) (by omega) y1 d0 (show hdY fs (legOf fs t) ≤ 0 by omega)
      unfold hdY at *
      exact .inr ⟨by omega, by omega⟩
end Go.Proofs.Ytnjjmoefiacbhaa.Trk
