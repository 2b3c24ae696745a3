import Derived.KernelRfl
namespace Go.Proofs.YtknelhceaoblhaaGreat.Rt
def rtN : Nat → Nat → Nat
  | 0, _ => 0
  | k + 1, n => if (k + 1) * (k + 1) ≤ n then k + 1 else rtN k n
theorem rtN_sq (n : Nat) : ∀ k, rtN k n * rtN k n ≤ n
  | 0 => by simp [rtN]
  | k + 1 => by
    unfold rtN
    by_cases h : (k + 1) * (k + 1) ≤ n
    · rw [if_pos h]; exact h
    · rw [if_neg h]; exact rtN_sq n k
theorem rtN_max (n : Nat) : ∀ k r, r ≤ k → r * r ≤ n → r ≤ rtN k n
  | 0, r, h, _ => by simp [rtN]; omega
  | k + 1, r, h, hr => by
    unfold rtN
    by_cases h2 : (k + 1) * (k + 1) ≤ n
    · rw [if_pos h2]; exact h
    · rw [if_neg h2]
      exact rtN_max n k r (by
        rcases Nat.lt_or_ge r (k + 1) with h3 | h3
        · omega
        · have : r = k + 1 := by omega
          subst this; exact absurd hr h2) hr
def rt (n : Int) : Int := (rtN n.toNat n.toNat : Nat)
theorem rt_nonneg (n : Int) : 0 ≤ rt n := Int.natCast_nonneg _
theorem rt_sq {n : Int} (h : 0 ≤ n) : rt n * rt n ≤ n := by
  have := rtN_sq n.toNat n.toNat
  unfold rt
  rw [← Int.natCast_mul]
  omega
theorem self_le_sq (r : Nat) : r ≤ r * r := by
  cases r with
  | zero => simp
  | succ k => exact Nat.le_mul_of_pos_left _ (by omega)
theorem rt_max {n r : Int} (hr : 0 ≤ r) (h : r * r ≤ n) : r ≤ rt n := by
  obtain ⟨k, rfl⟩ := Int.eq_ofNat_of_zero_le hr
  have h1 : k * k ≤ n.toNat := by
    have : ((k * k : Nat) : Int) ≤ n := by rw [Int.natCast_mul]; exact h
    omega
  have := rtN_max n.toNat n.toNat k (Nat.le_trans (self_le_sq k) h1) h1
  unfold rt
  omega
theorem sq_le {a b : Int} (ha : 0 ≤ a) (h : a ≤ b) : a * a ≤ b * b := Int.mul_le_mul h h ha (by omega)
theorem rt_eq {n r : Int} (hr : 0 ≤ r) (h : r * r ≤ n) (h2 : n < (r + 1) * (r + 1)) : rt n = r := by
  have h3 := rt_max hr h
  have h4 : 0 ≤ n := by have := sq_le (a := 0) (b := r) (by omega) hr; omega
  have h5 := rt_sq h4
  rcases Int.lt_or_le r (rt n) with h6 | h6
  · have := sq_le (a := r + 1) (b := rt n) (by omega) (by omega)
    omega
  · omega
theorem lt_next (n : Int) : n < (rt n + 1) * (rt n + 1) := by
  rcases Int.lt_or_le n ((rt n + 1) * (rt n + 1)) with h2 | h2
  · exact h2
  · have := rt_max (n := n) (r := rt n + 1) (by have := rt_nonneg n; omega) h2
    omega
end Go.Proofs.YtknelhceaoblhaaGreat.Rt
