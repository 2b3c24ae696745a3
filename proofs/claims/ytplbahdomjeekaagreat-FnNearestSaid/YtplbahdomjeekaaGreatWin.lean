import Derived.Test.YtplbahdomjeekaaGreatNear
import Derived.Test.YtplbahdomjeekaaGreatWid
import Derived.Test.YtplbahdomjeekaaGreatMRat
namespace Go.Proofs.YtplbahdomjeekaaGreat.Win
open Go.ChangeShapes Go.WideShapes Go.ChangeAt Go.RowKit
open Go.Proofs.YtplbahdomjeekaaGreat.Num Go.Proofs.YtplbahdomjeekaaGreat.Kit Go.Proofs.YtplbahdomjeekaaGreat.Pts Go.Proofs.YtplbahdomjeekaaGreat.Seg Go.Proofs.YtplbahdomjeekaaGreat.Gcd Go.Proofs.YtplbahdomjeekaaGreat.Cmp Go.Proofs.YtplbahdomjeekaaGreat.Rt Go.Proofs.YtplbahdomjeekaaGreat.Wid
set_option linter.unusedVariables false
set_option linter.unusedSimpArgs false
theorem ab_sq (n : Int) : ab n * ab n = n * n := by
  unfold ab; by_cases h : n < 0
  · rw [if_pos h, Int.neg_mul_neg]
  · rw [if_neg h]
theorem gc_dvd_left (a b : Int) (ha : 0 ≤ a) : ∃ k, a = gc a b * k := by
  unfold gc
  obtain ⟨k, hk⟩ := Nat.gcd_dvd_left a.toNat b.toNat
  exact ⟨k, by have : ((a.toNat : Nat) : Int) = ((a.toNat.gcd b.toNat * k : Nat) : Int) := congrArg _ hk; rw [Int.natCast_mul] at this; omega⟩
theorem gc_dvd_right (a b : Int) (hb : 0 ≤ b) : ∃ k, b = gc a b * k := by
  unfold gc
  obtain ⟨k, hk⟩ := Nat.gcd_dvd_right a.toNat b.toNat
  exact ⟨k, by have : ((b.toNat : Nat) : Int) = ((a.toNat.gcd b.toNat * k : Nat) : Int) := congrArg _ hk; rw [Int.natCast_mul] at this; omega⟩
theorem cl_bd (n : Int) {m : Int} (hm : 1 ≤ m) : 0 ≤ cl n m ∧ cl n m ≤ m ∧ (cl n m = 0 ↔ n ≤ 0) ∧ (cl n m = m ↔ m ≤ n) := by
  unfold cl; by_cases h : n < 0
  · rw [if_pos h]; omega
  · by_cases g : m < n
    · rw [if_neg h, if_pos g]; omega
    · rw [if_neg h, if_neg g]; omega
end Go.Proofs.YtplbahdomjeekaaGreat.Win
