/- Contracts of WithinDistance: what both programs answer of valid arguments. -/
import Derived.Test.YtcangdcakgcpaaaNear
import Derived.Test.YtcangdcakgcpaaaWid
import Derived.Test.YtcangdcakgcpaaaRat2
namespace Go.Proofs.Ytcangdcakgcpaaa.Win
open Go.ChangeShapes Go.WideShapes Go.ChangeAt Go.RowKit
open Go.Proofs.Ytcangdcakgcpaaa.Num Go.Proofs.Ytcangdcakgcpaaa.Kit Go.Proofs.Ytcangdcakgcpaaa.Pts Go.Proofs.Ytcangdcakgcpaaa.Seg Go.Proofs.Ytcangdcakgcpaaa.Gcd Go.Proofs.Ytcangdcakgcpaaa.Cmp Go.Proofs.Ytcangdcakgcpaaa.Rt Go.Proofs.Ytcangdcakgcpaaa.Wid
set_option linter.unusedVariables false
set_option linter.unusedSimpArgs false

/-- Is a point of the segment within the distance r of (p, q)? -/
def wiB (a b c d p q r : Int) : Bool :=
  if alg a b c d p q ≤ 0 then decide (sqD a b p q ≤ r * r)
  else if sqL a b c d ≤ alg a b c d p q then decide (sqD c d p q ≤ r * r)
  else decide (crs a b c d p q * crs a b c d p q ≤ r * r * sqL a b c d)

theorem idA (a b c d p q : Int) : crs a b c d p q * crs a b c d p q + alg a b c d p q * alg a b c d p q = sqL a b c d * sqD a b p q := by
  unfold crs alg sqL sqD; grind
theorem idB (a b c d p q : Int) : crs a b c d p q * crs a b c d p q + (alg a b c d p q - sqL a b c d) * (alg a b c d p q - sqL a b c d) = sqL a b c d * sqD c d p q := by
  unfold crs alg sqL sqD; grind
theorem idAB (a b c d p q : Int) : sqD c d p q - sqD a b p q = sqL a b c d - 2 * alg a b c d p q := by
  unfold alg sqL sqD; grind

/-- The reference model's way of saying it. -/
theorem wiB_spec (a b c d p q r : Int) (hm : 1 ≤ sqL a b c d) : wiB a b c d p q r =
    ((decide (sqD a b p q ≤ r * r) || decide (sqD c d p q ≤ r * r)) || (!(decide (alg a b c d p q ≤ 0) || decide (sqL a b c d ≤ alg a b c d p q)) && decide (crs a b c d p q * crs a b c d p q ≤ r * r * sqL a b c d))) := by
  have h1 := idA a b c d p q
  have h2 := idB a b c d p q
  have h3 := idAB a b c d p q
  have s1 := sqn (alg a b c d p q)
  have s2 := sqn (alg a b c d p q - sqL a b c d)
  have m1 : sqD a b p q ≤ r * r → sqL a b c d * sqD a b p q ≤ r * r * sqL a b c d := fun h => by
    rw [Int.mul_comm (r * r)]; exact Int.mul_le_mul_of_nonneg_left h (by omega)
  have m2 : sqD c d p q ≤ r * r → sqL a b c d * sqD c d p q ≤ r * r * sqL a b c d := fun h => by
    rw [Int.mul_comm (r * r)]; exact Int.mul_le_mul_of_nonneg_left h (by omega)
  unfold wiB
  by_cases g1 : alg a b c d p q ≤ 0
  · rw [if_pos g1, decide_eq_true g1, Bool.eq_iff_iff]
    simp only [Bool.true_or, Bool.not_true, Bool.false_and, Bool.or_false, Bool.or_eq_true, decide_eq_true_eq]
    omega
  · rw [if_neg g1, decide_eq_false g1]
    by_cases g2 : sqL a b c d ≤ alg a b c d p q
    · rw [if_pos g2, decide_eq_true g2, Bool.eq_iff_iff]
      simp only [Bool.or_true, Bool.not_true, Bool.false_and, Bool.or_false, Bool.or_eq_true, decide_eq_true_eq]
      omega
    · rw [if_neg g2, decide_eq_false g2, Bool.eq_iff_iff]
      simp only [Bool.or_false, Bool.not_false, Bool.true_and, Bool.or_eq_true, decide_eq_true_eq]
      constructor
      · exact fun h => .inr h
      · rintro ((h | h) | h)
        · have := m1 h; omega
        · have := m2 h; omega
        · exact h

/-- At most the root of K: the square is at most K. -/
theorem le_rt {x K : Int} (hx : 0 ≤ x) (hK : 0 ≤ K) : decide (x ≤ rt K) = decide (x * x ≤ K) := by
  rw [decide_eq_decide]
  constructor
  · intro h
    have := sq_le hx h
    have := rt_sq hK
    omega
  · exact fun h => rt_max hx h
theorem ab_sq (n : Int) : ab n * ab n = n * n := by
  unfold ab; by_cases h : n < 0
  · rw [if_pos h, Int.neg_mul_neg]
  · rw [if_neg h]

/-- A place in lowest terms is 0 exactly if its numerator is. -/
theorem gc_dvd_left (a b : Int) (ha : 0 ≤ a) : ∃ k, a = gc a b * k := by
  unfold gc
  obtain ⟨k, hk⟩ := Nat.gcd_dvd_left a.toNat b.toNat
  exact ⟨k, by have : ((a.toNat : Nat) : Int) = ((a.toNat.gcd b.toNat * k : Nat) : Int) := congrArg _ hk; rw [Int.natCast_mul] at this; omega⟩
theorem gc_dvd_right (a b : Int) (hb : 0 ≤ b) : ∃ k, b = gc a b * k := by
  unfold gc
  obtain ⟨k, hk⟩ := Nat.gcd_dvd_right a.toNat b.toNat
  exact ⟨k, by have : ((b.toNat : Nat) : Int) = ((a.toNat.gcd b.toNat * k : Nat) : Int) := congrArg _ hk; rw [Int.natCast_mul] at this; omega⟩
theorem low_zero {a b : Int} (ha : 0 ≤ a) (hb : 1 ≤ b) : a / gc a b = 0 ↔ a = 0 := by
  have hg := gc_pos (a := a) hb
  obtain ⟨k, hk⟩ := gc_dvd_left a b ha
  have e : a / gc a b = k := by
    rw [Int.ediv_eq_iff_eq_mul_right (by omega) ⟨k, hk⟩]; exact hk
  rw [e]
  constructor
  · intro h; rw [hk, h, Int.mul_zero]
  · intro h
    have h2 : gc a b * k = 0 := hk.symm.trans h
    rcases Int.mul_eq_zero.1 h2 with h3 | h3
    · omega
    · exact h3
theorem low_one {a b : Int} (ha : 0 ≤ a) (hb : 1 ≤ b) : a / gc a b = b / gc a b ↔ a = b := by
  have hg := gc_pos (a := a) hb
  obtain ⟨k, hk⟩ := gc_dvd_left a b ha
  obtain ⟨l, hl⟩ := gc_dvd_right a b (by omega)
  have e : a / gc a b = k := by
    rw [Int.ediv_eq_iff_eq_mul_right (by omega) ⟨k, hk⟩]; exact hk
  have e2 : b / gc a b = l := by
    rw [Int.ediv_eq_iff_eq_mul_right (by omega) ⟨l, hl⟩]; exact hl
  rw [e, e2]
  clear e e2
  generalize gc a b = G at *
  constructor
  · intro h; rw [hk, hl, h]
  · intro h
    have h2 : G * k = G * l := by rw [← hk, ← hl, h]
    exact Int.eq_of_mul_eq_mul_left (by omega) h2

theorem cl_bd (n : Int) {m : Int} (hm : 1 ≤ m) : 0 ≤ cl n m ∧ cl n m ≤ m ∧ (cl n m = 0 ↔ n ≤ 0) ∧ (cl n m = m ↔ m ≤ n) := by
  unfold cl; by_cases h : n < 0
  · rw [if_pos h]; omega
  · by_cases g : m < n
    · rw [if_neg h, if_pos g]; omega
    · rw [if_neg h, if_neg g]; omega
theorem ne_zero {a b c d p q : Int} (hm : 1 ≤ sqL a b c d) : neN a b c d p q = 0 ↔ alg a b c d p q ≤ 0 := by
  obtain ⟨h1, h2, h3, h4⟩ := cl_bd (alg a b c d p q) hm
  exact (low_zero h1 hm).trans h3
theorem ne_one {a b c d p q : Int} (hm : 1 ≤ sqL a b c d) : neN a b c d p q = neD a b c d p q ↔ sqL a b c d ≤ alg a b c d p q := by
  obtain ⟨h1, h2, h3, h4⟩ := cl_bd (alg a b c d p q) hm
  exact (low_one h1 hm).trans h4
theorem cmp_le (P Q : Int) : decide (cmpZ P Q ≤ 0) = decide (P ≤ Q) := by
  rw [decide_eq_decide]
  rcases Int.lt_trichotomy P Q with h | h | h
  · rw [cmpZ_lt h]; omega
  · rw [cmpZ_eq h]; omega
  · rw [cmpZ_gt h]; omega

end Go.Proofs.Ytcangdcakgcpaaa.Win
