/- Contracts of CompareRatios (impl, spec): both compare the cross products. -/
import Derived.Test.YtcangdcakgcpaaaCmp
import Derived.Deep.QuietTactic
import Derived.BigQuiet
namespace Go.Proofs.Ytcangdcakgcpaaa.Cmp
open Go.ChangeShapes Go.WideShapes Go.ChangeAt Go.RowKit
open Go.Proofs.Ytcangdcakgcpaaa.Num Go.Proofs.Ytcangdcakgcpaaa.Kit Go.Proofs.Ytcangdcakgcpaaa.Pts
set_option linter.unusedVariables false
set_option linter.unusedSimpArgs false

theorem flo_bd {a b : Int} (hb : 1 ≤ b) : 0 ≤ a - flo a b * b ∧ a - flo a b * b < b := by
  have h : (a.tmod b).natAbs = a.natAbs % b.natAbs := Int.natAbs_tmod a b
  have h2 := Nat.mod_lt a.natAbs (show 0 < b.natAbs by omega)
  have h3 := Int.mul_tdiv_add_tmod a b
  unfold flo
  by_cases hm : a.tmod b < 0
  · rw [if_pos hm, Int.sub_mul, Int.mul_comm (a.tdiv b) b]; omega
  · rw [if_neg hm, Int.mul_comm (a.tdiv b) b]; omega
theorem flo_abs {a b : Int} (hb : 1 ≤ b) (M : Int) (h1 : -M ≤ a) (h2 : a ≤ M) : -M - 1 ≤ flo a b ∧ flo a b ≤ M := by
  obtain ⟨g1, g2⟩ := tdiv_bd hb M h1 h2
  unfold flo; by_cases hm : a.tmod b < 0
  · rw [if_pos hm]; omega
  · rw [if_neg hm]; omega

theorem cmpZ_anti (x y : Int) : cmpZ y x = -cmpZ x y := by
  rcases Int.lt_trichotomy x y with h | h | h
  · rw [cmpZ_lt h, cmpZ_gt h]; rfl
  · rw [cmpZ_eq h, cmpZ_eq h.symm]; rfl
  · rw [cmpZ_gt h, cmpZ_lt h]
theorem cmpZ_shift {x y x' y' : Int} (h : x - y = x' - y') : cmpZ x y = cmpZ x' y' := by
  rcases Int.lt_trichotomy x y with g | g | g
  · rw [cmpZ_lt g, cmpZ_lt (by omega)]
  · rw [cmpZ_eq g, cmpZ_eq (by omega)]
  · rw [cmpZ_gt g, cmpZ_gt (by omega)]
theorem cross_lt {a b c d p q : Int} (hb : 1 ≤ b) (hd : 1 ≤ d) (r1 : a - p * b < b) (s0 : 0 ≤ c - q * d) (h : p < q) : a * d < c * b := by
  have e1 : (p + 1) * b = p * b + b := by rw [Int.add_mul, Int.one_mul]
  have h1 : a * d < (p + 1) * b * d := Int.mul_lt_mul_of_pos_right (by omega) (by omega)
  have h2 : q * d * b ≤ c * b := Int.mul_le_mul_of_nonneg_right (by omega) (by omega)
  have h4 : 0 ≤ b * d := Int.mul_nonneg (by omega) (by omega)
  have h3 : (p + 1) * (b * d) ≤ q * (b * d) := Int.mul_le_mul_of_nonneg_right (by omega) h4
  have e2 : (p + 1) * b * d = (p + 1) * (b * d) := Int.mul_assoc _ _ _
  have e3 : q * d * b = q * (b * d) := by rw [Int.mul_assoc, Int.mul_comm d b]
  omega
theorem cross_same (a b c d p : Int) : (a - p * b) * d - (c - p * d) * b = a * d - c * b := by grind
theorem cross_zero {r s b d : Int} (hr : 0 ≤ r) (hs : 0 ≤ s) (hb : 1 ≤ b) (hd : 1 ≤ d) (h : r = 0 ∨ s = 0) : cmpZ (r * d) (s * b) = sgn (r - s) := by
  rcases h with h | h
  · subst h
    rw [Int.zero_mul]
    rcases Int.lt_or_le 0 s with g | g
    · rw [cmpZ_lt (Int.mul_pos g (by omega))]; unfold sgn; rw [if_pos (by omega)]
    · rw [show s = 0 by omega, Int.zero_mul]; rfl
  · subst h
    rw [Int.zero_mul]
    rcases Int.lt_or_le 0 r with g | g
    · rw [cmpZ_gt (Int.mul_pos g (by omega))]; unfold sgn; rw [if_neg (by omega), if_pos (by omega)]
    · rw [show r = 0 by omega, Int.zero_mul]; rfl
theorem cross_flip (r b s d : Int) : cmpZ (b * s) (d * r) = -cmpZ (r * d) (s * b) := by
  rw [← cmpZ_anti, Int.mul_comm b s, Int.mul_comm d r]
theorem sgn_neg1 {n : Int} (h : n < 0) : sgn n = -1 := if_pos h
theorem sgn_pos1 {n : Int} (h : 0 < n) : sgn n = 1 := by unfold sgn; rw [if_neg (by omega), if_pos h]
theorem sgn_bd (n : Int) : -1 ≤ sgn n ∧ sgn n ≤ 1 := by
  unfold sgn; rcases Int.lt_trichotomy n 0 with h | h | h
  · rw [if_pos h]; decide
  · subst h; decide
  · rw [if_neg (by omega : ¬ n < 0), if_pos h]; decide

/-- What the loop of l02Compare keeps. -/
def RelC (T : Int) (s5 s6 s7 s8 s9 : Value) : Prop := ∃ a b c d g : Int, -100000000000000 ≤ a ∧ a ≤ 100000000000000 ∧ 1 ≤ b ∧ b ≤ 100000000000000 ∧ -100000000000000 ≤ c ∧ c ≤ 100000000000000 ∧ 1 ≤ d ∧ d ≤ 100000000000000 ∧
  (g = 1 ∨ g = -1) ∧ T = g * cmpZ (a * d) (c * b) ∧ s5 = .int .i64 a ∧ s6 = .int .i64 b ∧ s7 = .int .i64 c ∧ s8 = .int .i64 d ∧ s9 = .int .i64 g

/-- Is a ratio within lo .. 1 (lo: 0 or -1)? -/
def raB (n d lo : Int) : Bool := decide (1 ≤ d) && (decide (d ≤ 100000000000000) && (decide (lo * d ≤ n) && decide (n ≤ d)))
theorem raB_yes {n d lo : Int} (h : raB n d lo = true) : 1 ≤ d ∧ d ≤ 100000000000000 ∧ lo * d ≤ n ∧ n ≤ d := by
  unfold raB at h; simp only [Bool.and_eq_true, decide_eq_true_eq] at h; exact ⟨h.1, h.2.1, h.2.2.1, h.2.2.2⟩

end Go.Proofs.Ytcangdcakgcpaaa.Cmp
