import Derived.Test.YtplbahdomjeekaaGreatZon
namespace Go.Proofs.YtplbahdomjeekaaGreat.Crs
open Go.ChangeShapes Go.WideShapes Go.ChangeAt Go.RowKit Go.PlainAid
open Go.Proofs.YtplbahdomjeekaaGreat.Num Go.Proofs.YtplbahdomjeekaaGreat.Kit Go.Proofs.YtplbahdomjeekaaGreat.Pts Go.Proofs.YtplbahdomjeekaaGreat.Seg Go.Proofs.YtplbahdomjeekaaGreat.Div Go.Proofs.YtplbahdomjeekaaGreat.Root Go.Proofs.YtplbahdomjeekaaGreat.Rt Go.Proofs.YtplbahdomjeekaaGreat.Gcd
open Go.Proofs.YtplbahdomjeekaaGreat.Trk (F3 Fxs Tr trB fx lastB legOf pkX pkY)

set_option linter.unusedVariables false
set_option linter.unusedSimpArgs false
theorem le_sq {x y : Int} (hy : 0 ≤ y) (h : x * x ≤ y * y) : x ≤ y := by
  rcases Int.lt_or_le y x with g | g
  · have := Int.mul_le_mul (show y + 1 ≤ x from g) (show y + 1 ≤ x from g) (by omega) (by omega)
    have e : (y + 1) * (y + 1) = y * y + 2 * y + 1 := by grind
    omega
  · exact g
theorem pa_part {N D K L n : Int} (d1 : 1 ≤ D) (l1 : 1 ≤ L) (e : N * L = K * D) : 0 ≤ n * K - L * pa N D n ∧ n * K - L * pa N D n < L := by
  have h1 := Int.ediv_mul_le (n * N) (show D ≠ 0 by omega)
  have h2 := Int.lt_ediv_add_one_mul_self (n * N) (show 0 < D by omega)
  unfold pa
  generalize n * N / D = P at *
  have e1 : n * K * D = n * N * L := by rw [Int.mul_assoc, ← e, Int.mul_assoc]
  have a1 : P * D * L ≤ n * K * D := by rw [e1]; exact Int.mul_le_mul_of_nonneg_right h1 (by omega)
  have a2 : n * K * D < (P + 1) * D * L := by rw [e1]; exact Int.mul_lt_mul_of_pos_right h2 (by omega)
  have b1 : (L * P) * D ≤ (n * K) * D := by rw [show L * P * D = P * D * L by grind]; exact a1
  have b2 : (n * K) * D < (L * P + L) * D := by rw [show (L * P + L) * D = (P + 1) * D * L by grind]; exact a2
  have c1 := Int.le_of_mul_le_mul_right b1 (show 0 < D by omega)
  have c2 := Int.lt_of_mul_lt_mul_right b2 (show 0 ≤ D by omega)
  omega
theorem foot_le {a b c d p q K : Int} (hL : 1 ≤ sqL a b c d) (hK : K = cl (alg a b c d p q) (sqL a b c d)) :
    (sqL a b c d * (p - a) - (c - a) * K) * (sqL a b c d * (p - a) - (c - a) * K) + (sqL a b c d * (q - b) - (d - b) * K) * (sqL a b c d * (q - b) - (d - b) * K) ≤ sqL a b c d * sqL a b c d * sqD a b p q ∧
    (sqL a b c d * (p - a) - (c - a) * K) * (sqL a b c d * (p - a) - (c - a) * K) + (sqL a b c d * (q - b) - (d - b) * K) * (sqL a b c d * (q - b) - (d - b) * K) ≤ sqL a b c d * sqL a b c d * sqD c d p q := by
  have e : (sqL a b c d * (p - a) - (c - a) * K) * (sqL a b c d * (p - a) - (c - a) * K) + (sqL a b c d * (q - b) - (d - b) * K) * (sqL a b c d * (q - b) - (d - b) * K) = sqL a b c d * sqL a b c d * sqD a b p q + sqL a b c d * (K * K - 2 * K * alg a b c d p q) := by
    unfold sqL alg sqD; grind
  have e2 : sqD c d p q = sqD a b p q + sqL a b c d - 2 * alg a b c d p q := by unfold sqL alg sqD; grind
  rw [e]
  obtain ⟨k0, k1, k2, k3⟩ := Win.cl_bd (alg a b c d p q) hL
  rw [← hK] at k0 k1 k2 k3
  have hA : K = 0 ∨ K = sqL a b c d ∨ K = alg a b c d p q := by
    unfold cl at hK
    by_cases h : alg a b c d p q < 0
    · rw [if_pos h] at hK; exact .inl hK
    · rw [if_neg h] at hK
      by_cases g : sqL a b c d < alg a b c d p q
      · rw [if_pos g] at hK; exact .inr (.inl hK)
      · rw [if_neg g] at hK; exact .inr (.inr hK)
  rw [e2]
  generalize sqL a b c d = L at *
  generalize alg a b c d p q = A at *
  generalize sqD a b p q = S at *
  have m1 : K * K - 2 * K * A ≤ 0 := by
    rcases hA with h | h | h
    · rw [h]; omega
    · have : L ≤ A := k3.1 h
      have := Int.mul_le_mul_of_nonneg_left this (show 0 ≤ L by omega)
      rw [h]; have := sqn L; grind
    · rw [h]; have := sqn A; grind
  have m2 : K * K - 2 * K * A ≤ L * (L - 2 * A) := by
    rcases hA with h | h | h
    · have hA0 : A ≤ 0 := k2.1 h
      have := Int.mul_nonneg (show 0 ≤ L by omega) (show 0 ≤ L - 2 * A by omega)
      rw [h]; omega
    · rw [h]; grind
    · have := sqn (L - A)
      rw [h]; grind
  have n1 := Int.mul_le_mul_of_nonneg_left m1 (show 0 ≤ L by omega)
  have n2 := Int.mul_le_mul_of_nonneg_left m2 (show 0 ≤ L by omega)
  constructor
  · omega
  · have : L * L * (S + L - 2 * A) = L * L * S + L * (L * (L - 2 * A)) := by grind
    omega
theorem round_le {L T S m u v r s : Int} (l1 : 1 ≤ L) (hm : 0 ≤ m) (hT : T < (m + 1) * (m + 1)) (hu : u * u + v * v ≤ L * L * T) (r0 : 0 ≤ r) (r1 : r ≤ L) (s0 : 0 ≤ s) (s1 : s ≤ L)
    (hS : L * L * S = (u + r) * (u + r) + (v + s) * (v + s)) : S < (m + 3) * (m + 3) := by
  rcases Int.lt_or_le S ((m + 3) * (m + 3)) with h | h
  · exact h
  exfalso
  obtain ⟨W, hW⟩ : ∃ W, W = ab u + ab v := ⟨_, rfl⟩
  have au : u ≤ ab u ∧ 0 ≤ ab u ∧ ab u * ab u = u * u := ⟨by unfold ab; split <;> omega, by unfold ab; split <;> omega, Win.ab_sq u⟩
  have av : v ≤ ab v ∧ 0 ≤ ab v ∧ ab v * ab v = v * v := ⟨by unfold ab; split <;> omega, by unfold ab; split <;> omega, Win.ab_sq v⟩
  have LL := Int.mul_le_mul l1 l1 (by omega) (by omega)
  -- W * W <= 2 (u u + v v)
  have w2 : W * W ≤ 2 * (u * u + v * v) := by
    have := sqn (ab u - ab v)
    rw [hW]; grind
  have t1 : L * L * T ≤ L * L * ((m + 1) * (m + 1) - 1) := Int.mul_le_mul_of_nonneg_left (by omega) (by omega)
  have w3 : (2 * W) * (2 * W) ≤ (3 * L * (m + 1)) * (3 * L * (m + 1)) := by
    have e1 : (2 * W) * (2 * W) = 4 * (W * W) := by grind
    have e2 : (3 * L * (m + 1)) * (3 * L * (m + 1)) = 9 * (L * L * ((m + 1) * (m + 1))) := by grind
    have e3 : L * L * ((m + 1) * (m + 1) - 1) = L * L * ((m + 1) * (m + 1)) - L * L := by grind
    have q1 := Int.mul_nonneg (show 0 ≤ L * L by omega) (sqn (m + 1))
    omega
  have w4 : 2 * W ≤ 3 * L * (m + 1) := le_sq (Int.mul_nonneg (Int.mul_nonneg (by omega) (by omega)) (by omega)) w3
  have p1 : u * r ≤ ab u * L := Int.le_trans (Int.mul_le_mul_of_nonneg_right au.1 r0) (Int.mul_le_mul_of_nonneg_left r1 au.2.1)
  have p2 : v * s ≤ ab v * L := Int.le_trans (Int.mul_le_mul_of_nonneg_right av.1 s0) (Int.mul_le_mul_of_nonneg_left s1 av.2.1)
  have p3 : r * r ≤ L * L := Int.mul_le_mul r1 r1 r0 (by omega)
  have p4 : s * s ≤ L * L := Int.mul_le_mul s1 s1 s0 (by omega)
  have p5 : ab u * L + ab v * L = W * L := by rw [hW]; grind
  have p6 : 2 * (W * L) ≤ 3 * (L * L * (m + 1)) := by
    have := Int.mul_le_mul_of_nonneg_right w4 (show 0 ≤ L by omega)
    have e1 : 2 * W * L = 2 * (W * L) := by grind
    have e2 : 3 * L * (m + 1) * L = 3 * (L * L * (m + 1)) := by grind
    omega
  have s2 : L * L * ((m + 3) * (m + 3)) ≤ L * L * S := Int.mul_le_mul_of_nonneg_left h (by omega)
  have e4 : (u + r) * (u + r) + (v + s) * (v + s) = (u * u + v * v) + 2 * (u * r) + 2 * (v * s) + r * r + s * s := by grind
  have e5 : L * L * ((m + 3) * (m + 3)) = L * L * (m * m) + 6 * (L * L * m) + 9 * (L * L) := by grind
  have e6 : L * L * ((m + 1) * (m + 1) - 1) = L * L * (m * m) + 2 * (L * L * m) := by grind
  have e7 : L * L * (m + 1) = L * L * m + L * L := by grind
  have e8 := Int.mul_nonneg (show 0 ≤ L * L by omega) hm
  omega
theorem near_ends {a b c d p q : Int} (ha : Co a) (hb : Co b) (hc : Co c) (hd : Co d) (hp : Co p) (hq : Co q) :
    rt (sqD (npX a b c d p q) (npY a b c d p q) p q) ≤ rt (sqD a b p q) + 2 ∧ rt (sqD (npX a b c d p q) (npY a b c d p q) p q) ≤ rt (sqD c d p q) + 2 := by
  have nn : ∀ x y, 0 ≤ sqD x y p q := fun x y => by unfold sqD; have := sqn (p - x); have := sqn (q - y); omega
  by_cases h : a = c ∧ b = d
  · have e1 : npX a b c d p q = a := if_pos h
    have e2 : npY a b c d p q = b := if_pos h
    rw [e1, e2, ← h.1, ← h.2]; omega
  · have e1 : npX a b c d p q = a + pa (neN a b c d p q) (neD a b c d p q) (c - a) := if_neg h
    have e2 : npY a b c d p q = b + pa (neN a b c d p q) (neD a b c d p q) (d - b) := if_neg h
    obtain ⟨M1, M2⟩ := sqL_bd ha hb hc hd h
    obtain ⟨k1, k2, d1, d2, hE⟩ := ne_bd (p := p) (q := q) ha hb hc hd h
    obtain ⟨f1, f2⟩ := foot_le (p := p) (q := q) (K := neK a b c d p q) M1 rfl
    obtain ⟨r0, r1⟩ := pa_part (n := c - a) d1 M1 hE
    obtain ⟨s0, s1⟩ := pa_part (n := d - b) d1 M1 hE
    rw [e1, e2]
    have key : ∀ T, 0 ≤ T → (sqL a b c d * (p - a) - (c - a) * neK a b c d p q) * (sqL a b c d * (p - a) - (c - a) * neK a b c d p q) + (sqL a b c d * (q - b) - (d - b) * neK a b c d p q) * (sqL a b c d * (q - b) - (d - b) * neK a b c d p q) ≤ sqL a b c d * sqL a b c d * T →
        rt (sqD (a + pa (neN a b c d p q) (neD a b c d p q) (c - a)) (b + pa (neN a b c d p q) (neD a b c d p q) (d - b)) p q) ≤ rt T + 2 := by
      intro T hT hf
      have hS := nn (a + pa (neN a b c d p q) (neD a b c d p q) (c - a)) (b + pa (neN a b c d p q) (neD a b c d p q) (d - b))
      have t0 := rt_nonneg T
      have t1 : T < (rt T + 1) * (rt T + 1) := by
        rcases Int.lt_or_le T ((rt T + 1) * (rt T + 1)) with h | h
        · exact h
        · exfalso; have := rt_max (n := T) (r := rt T + 1) (by omega) h; omega
      have z0 := rt_nonneg (sqD (a + pa (neN a b c d p q) (neD a b c d p q) (c - a)) (b + pa (neN a b c d p q) (neD a b c d p q) (d - b)) p q)
      have z1 := rt_sq hS
      have hR := round_le (S := sqD (a + pa (neN a b c d p q) (neD a b c d p q) (c - a)) (b + pa (neN a b c d p q) (neD a b c d p q) (d - b)) p q) M1 t0 t1 hf r0 (by omega) s0 (by omega) (by unfold sqD; grind)
      rcases Int.lt_or_le (rt T + 2) (rt (sqD (a + pa (neN a b c d p q) (neD a b c d p q) (c - a)) (b + pa (neN a b c d p q) (neD a b c d p q) (d - b)) p q)) with g | g
      · have := Int.mul_le_mul (show rt T + 3 ≤ _ from g) (show rt T + 3 ≤ _ from g) (by omega) (by omega)
        omega
      · exact g
    exact ⟨key _ (nn _ _) f1, key _ (nn _ _) f2⟩
end Go.Proofs.YtplbahdomjeekaaGreat.Crs
