import Derived.KernelRfl
namespace Go.Proofs.YtknelhceaoblhaaGreat.DivM
def Inv (u c Y n1 k r : Nat) : Prop := (u * 4294967296 + c) / Y ≤ k ∧ k ≤ 4294967297 ∧ k * n1 + r = u ∧ r < 4294967296
structure Dig (u c Y n1 n0 : Nat) : Prop where
  y : Y = n1 * 4294967296 + n0
  lo : 2147483648 ≤ n1
  hi : n1 < 4294967296
  n0 : n0 < 4294967296
  u : u < Y
  c : c < 4294967296
theorem mulY {Y n1 n0 k r u : Nat} (hY : Y = n1 * 4294967296 + n0) (h : k * n1 + r = u) : k * Y + r * 4294967296 = u * 4294967296 + k * n0 := by
  subst hY h
  rw [Nat.mul_add, ← Nat.mul_assoc, Nat.add_mul]
  omega
theorem Dig.pos {u c Y n1 n0 : Nat} (D : Dig u c Y n1 n0) : 0 < Y := by have := D.u; omega
theorem le_q {u c Y n1 n0 k r : Nat} (D : Dig u c Y n1 n0) (h : k * n1 + r = u) (hk : k * n0 ≤ 4294967296 * r + c) : k ≤ (u * 4294967296 + c) / Y := by
  rw [Nat.le_div_iff_mul_le D.pos]
  have := mulY D.y h
  omega
theorem q_lt {u c Y n1 n0 k r : Nat} (D : Dig u c Y n1 n0) (h : k * n1 + r = u) (hk : 4294967296 * r + c < k * n0) : (u * 4294967296 + c) / Y < k := by
  rw [Nat.div_lt_iff_lt_mul D.pos]
  have := mulY D.y h
  omega
theorem q_small {u c Y n1 n0 : Nat} (D : Dig u c Y n1 n0) : (u * 4294967296 + c) / Y < 4294967296 := by
  rw [Nat.div_lt_iff_lt_mul D.pos]
  have := D.u; have := D.c
  rw [Nat.mul_comm 4294967296 Y]
  omega
theorem start {u c Y n1 n0 : Nat} (D : Dig u c Y n1 n0) : Inv u c Y n1 (u / n1) (u % n1) := by
  have hp : 0 < n1 := by have := D.lo; omega
  have hq := Nat.div_mul_le_self (u * 4294967296 + c) Y
  have e := Nat.div_add_mod u n1
  refine ⟨?_, ?_, ?_, ?_⟩
  · rw [Nat.le_div_iff_mul_le hp]
    generalize (u * 4294967296 + c) / Y = q at *
    rw [D.y, Nat.mul_add, ← Nat.mul_assoc] at hq
    have := D.c
    omega
  · have : u / n1 < 4294967298 := by
      rw [Nat.div_lt_iff_lt_mul hp]
      have h1 := D.u; have h2 := D.y; have h3 := D.n0; have h4 := D.lo
      rw [Nat.mul_comm]
      omega
    omega
  · rw [Nat.mul_comm]; omega
  · have := Nat.mod_lt u hp; have := D.hi; omega
theorem stop {u c Y n1 n0 k r : Nat} (D : Dig u c Y n1 n0) (I : Inv u c Y n1 k r) (hk : k * n0 ≤ 4294967296 * r + c) : k = (u * 4294967296 + c) / Y :=
  Nat.le_antisymm (le_q D I.2.2.1 hk) I.1
theorem more {u c Y n1 n0 k r : Nat} (D : Dig u c Y n1 n0) (I : Inv u c Y n1 k r) (hk : 4294967296 ≤ k ∨ 4294967296 * r + c < k * n0) :
    1 ≤ k ∧ (u * 4294967296 + c) / Y ≤ k - 1 ∧ (k - 1) * n1 + (r + n1) = u := by
  have h : (u * 4294967296 + c) / Y < k := by
    rcases hk with h | h
    · exact Nat.lt_of_lt_of_le (q_small D) h
    · exact q_lt D I.2.2.1 h
  have hk1 : 1 ≤ k := Nat.lt_of_le_of_lt (Nat.zero_le _) h
  refine ⟨hk1, Nat.le_sub_one_of_lt h, ?_⟩
  have h2 := I.2.2.1
  obtain ⟨m, rfl⟩ : ∃ m, k = m + 1 := ⟨k - 1, by omega⟩
  rw [Nat.add_mul] at h2
  rw [Nat.add_sub_cancel]
  omega
theorem next {u c Y n1 n0 k r : Nat} (D : Dig u c Y n1 n0) (I : Inv u c Y n1 k r) (hk : 4294967296 ≤ k ∨ 4294967296 * r + c < k * n0) (hr : r + n1 < 4294967296) : Inv u c Y n1 (k - 1) (r + n1) := by
  obtain ⟨h1, h2, h3⟩ := more D I hk
  exact ⟨h2, by have := I.2.1; omega, h3, hr⟩
theorem break_ {u c Y n1 n0 k r : Nat} (D : Dig u c Y n1 n0) (I : Inv u c Y n1 k r) (hk : 4294967296 ≤ k ∨ 4294967296 * r + c < k * n0) (hr : 4294967296 ≤ r + n1) : k - 1 = (u * 4294967296 + c) / Y := by
  obtain ⟨h1, h2, h3⟩ := more D I hk
  refine Nat.le_antisymm (le_q D h3 ?_) h2
  have hk := I.2.1
  have h4 : (k - 1) * n0 ≤ 4294967296 * 4294967295 := Nat.mul_le_mul (by omega) (by have := D.n0; omega)
  have h5 : 4294967296 * 4294967296 ≤ 4294967296 * (r + n1) := Nat.mul_le_mul_left _ hr
  omega
theorem two {U Y u c0 c1 : Nat} (hY : 0 < Y) (hU : U = (u * 4294967296 + c1) * 4294967296 + c0) :
    U / Y = (u * 4294967296 + c1) / Y * 4294967296 + ((u * 4294967296 + c1) % Y * 4294967296 + c0) / Y ∧ U % Y = ((u * 4294967296 + c1) % Y * 4294967296 + c0) % Y := by
  have e := Nat.div_add_mod (u * 4294967296 + c1) Y
  have hU2 : U = Y * ((u * 4294967296 + c1) / Y * 4294967296) + ((u * 4294967296 + c1) % Y * 4294967296 + c0) := by
    rw [hU]
    generalize (u * 4294967296 + c1) / Y = q at *
    generalize (u * 4294967296 + c1) % Y = r at *
    rw [← e, Nat.add_mul, Nat.mul_assoc]
    omega
  rw [hU2]
  constructor
  · rw [Nat.mul_add_div hY]
  · rw [Nat.mul_add_mod]
theorem scale {N y T : Nat} (hT : 0 < T) : N * T / (y * T) = N / y ∧ N * T % (y * T) / T = N % y := by
  constructor
  · exact Nat.mul_div_mul_right N y hT
  · rw [Nat.mul_mod_mul_right, Nat.mul_div_cancel _ hT]
end Go.Proofs.YtknelhceaoblhaaGreat.DivM
