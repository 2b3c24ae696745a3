import Derived.Test.YtknelhceaoblhaaGreatMPlace
import Derived.Test.YtknelhceaoblhaaGreatWid
import Derived.Test.YtknelhceaoblhaaGreatRat2
namespace Go.Proofs.YtknelhceaoblhaaGreat.Win
open Go.ChangeShapes Go.WideShapes Go.ChangeAt Go.RowKit
open Go.Proofs.YtknelhceaoblhaaGreat.Num Go.Proofs.YtknelhceaoblhaaGreat.Kit Go.Proofs.YtknelhceaoblhaaGreat.Pts Go.Proofs.YtknelhceaoblhaaGreat.Seg Go.Proofs.YtknelhceaoblhaaGreat.Gcd Go.Proofs.YtknelhceaoblhaaGreat.Cmp Go.Proofs.YtknelhceaoblhaaGreat.Rt Go.Proofs.YtknelhceaoblhaaGreat.Wid
set_option linter.unusedVariables false
set_option linter.unusedSimpArgs false
def wiB (a b c d p q r : Int) : Bool :=
  if alg a b c d p q ≤ 0 then decide (sqD a b p q ≤ r * r)
  else if sqL a b c d ≤ alg a b c d p q then decide (sqD c d p q ≤ r * r)
  else decide (crs a b c d p q * crs a b c d p q ≤ r * r * sqL a b c d)
theorem idA (a b c d p q : Int) : crs a b c d p q * crs a b c d p q + alg a b c d p q * alg a b c d p q = sqL a b c d * sqD a b p q := by
  unfold crs alg sqL sqD; grind
theorem idB (a b c d p q : Int) : crs a b c d p q * crs a b c d p q + (alg a b c d p q - sqL a b c d) * (alg a b c d p q - sqL a b c d) = sqL a b c d * sqD c d p q := by
  unfold crs alg sqL sqD; grind
theorem idAB (a b c d p q : Int) : sqD c d p q - sqD a b p q = sqL a b c d - 2 * alg a b c d p q := by
  unfold alg sqL sqD; grind
theorem wiB_spec (a b c d p q r : Int) (hm : 1 ≤ sqL a b c d) : wiB a b c d p q r =
    ((decide (sqD a b p q ≤ r * r) || decide (sqD c d p q ≤ r * r)) || (!(decide (alg a b c d p q ≤ 0) || decide (sqL a b c d ≤ alg a b c d p q)) && decide (crs a b c d p q * crs a b c d p q ≤ r * r * sqL a b c d))) := by
  have h1 := idA a b c d p q
  have h2 := idB a b c d p q
  have h3 := idAB a b c d p q
  have s1 := sqn (alg a b c d p q)
  have s2 := sqn (alg a b c d p q - sqL a b c d)
  have m1 : sqD a b p q ≤ r * r → sqL a b c d * sqD a b p q ≤ r * r * sqL a b c d := fun h => by
    rw [Int.mul_comm (r * r)]; exact Int.mul_le_mul_of_nonneg_left h (by omega)
  have m2 : sqD c d p q ≤ r * r → sqL a b c d * sqD c d p q ≤ r * r * sqL a b c d := fun h => by
    rw [Int.mul_comm (r * r)]; exact Int.mul_le_mul_of_nonneg_left h (by omega)
  unfold wiB
  by_cases g1 : alg a b c d p q ≤ 0
  · rw [if_pos g1, decide_eq_true g1, Bool.eq_iff_iff]
    simp only [Bool.true_or, Bool.not_true, Bool.false_and, Bool.or_false, Bool.or_eq_true, decide_eq_true_eq]
    omega
  · rw [if_neg g1, decide_eq_false g1]
    by_cases g2 : sqL a b c d ≤ alg a b c d p q
    · rw [if_pos g2, decide_eq_true g2, Bool.eq_iff_iff]
      simp only [Bool.or_true, Bool.not_true, Bool.false_and, Bool.or_false, Bool.or_eq_true, decide_eq_true_eq]
      omega
    · rw [if_neg g2, decide_eq_false g2, Bool.eq_iff_iff]
      simp only [Bool.or_false, Bool.not_false, Bool.true_and, Bool.or_eq_true, decide_eq_true_eq]
      constructor
      · exact fun h => .inr h
      · rintro ((h | h) | h)
        · have := m1 h; omega
        · have := m2 h; omega
        · exact h
theorem le_rt {x K : Int} (hx : 0 ≤ x) (hK : 0 ≤ K) : decide (x ≤ rt K) = decide (x * x ≤ K) := by
  rw [decide_eq_decide]
  constructor
  · intro h
    have := sq_le hx h
    have := rt_sq hK
    omega
  · exact fun h => rt_max hx h
theorem ab_sq (n : Int) : ab n * ab n = n * n := by
  unfold ab; by_cases h : n < 0
  · rw [if_pos h, Int.neg_mul_neg]
  · rw [if_neg h]
theorem gc_dvd_left (a b : Int) (ha : 0 ≤ a) : ∃ k, a = gc a b * k := by
  unfold gc
  obtain ⟨k, hk⟩ := Nat.gcd_dvd_left a.toNat b.toNat
  exact ⟨k, by have : ((a.toNat : Nat) : Int) = ((a.toNat.gcd b.toNat * k : Nat) : Int) := congrArg _ hk; rw [Int.natCast_mul] at this; omega⟩
theorem gc_dvd_right (a b : Int) (hb : 0 ≤ b) : ∃ k, b = gc a b * k := by
  unfold gc
  obtain ⟨k, hk⟩ := Nat.gcd_dvd_right a.toNat b.toNat
  exact ⟨k, by have : ((b.toNat : Nat) : Int) = ((a.toNat.gcd b.toNat * k : Nat) : Int) := congrArg _ hk; rw [Int.natCast_mul] at this; omega⟩
theorem low_zero {a b : Int} (ha : 0 ≤ a) (hb : 1 ≤ b) : a / gc a b = 0 ↔ a = 0 := by
  have hg := gc_pos (a := a) hb
  obtain ⟨k, hk⟩ := gc_dvd_left a b ha
  have e : a / gc a b = k := by
    rw [Int.ediv_eq_iff_eq_mul_right (by omega) ⟨k, hk⟩]; exact hk
  rw [e]
  constructor
  · intro h; rw [hk, h, Int.mul_zero]
  · intro h
    have h2 : gc a b * k = 0 := hk.symm.trans h
    rcases Int.mul_eq_zero.1 h2 with h3 | h3
    · omega
    · exact h3
theorem low_one {a b : Int} (ha : 0 ≤ a) (hb : 1 ≤ b) : a / gc a b = b / gc a b ↔ a = b := by
  have hg := gc_pos (a := a) hb
  obtain ⟨k, hk⟩ := gc_dvd_left a b ha
  obtain ⟨l, hl⟩ := gc_dvd_right a b (by omega)
  have e : a / gc a b = k := by
    rw [Int.ediv_eq_iff_eq_mul_right (by omega) ⟨k, hk⟩]; exact hk
  have e2 : b / gc a b = l := by
    rw [Int.ediv_eq_iff_eq_mul_right (by omega) ⟨l, hl⟩]; exact hl
  rw [e, e2]
  clear e e2
  generalize gc a b = G at *
  constructor
  · intro h; rw [hk, hl, h]
  · intro h
    have h2 : G * k = G * l := by rw [← hk, ← hl, h]
    exact Int.eq_of_mul_eq_mul_left (by omega) h2
theorem cl_bd (n : Int) {m : Int} (hm : 1 ≤ m) : 0 ≤ cl n m ∧ cl n m ≤ m ∧ (cl n m = 0 ↔ n ≤ 0) ∧ (cl n m = m ↔ m ≤ n) := by
  unfold cl; by_cases h : n < 0
  · rw [if_pos h]; omega
  · by_cases g : m < n
    · rw [if_neg h, if_pos g]; omega
    · rw [if_neg h, if_neg g]; omega
theorem ne_zero {a b c d p q : Int} (hm : 1 ≤ sqL a b c d) : neN a b c d p q = 0 ↔ alg a b c d p q ≤ 0 := by
  obtain ⟨h1, h2, h3, h4⟩ := cl_bd (alg a b c d p q) hm
  exact (low_zero h1 hm).trans h3
theorem ne_one {a b c d p q : Int} (hm : 1 ≤ sqL a b c d) : neN a b c d p q = neD a b c d p q ↔ sqL a b c d ≤ alg a b c d p q := by
  obtain ⟨h1, h2, h3, h4⟩ := cl_bd (alg a b c d p q) hm
  exact (low_one h1 hm).trans h4
theorem cmp_le (P Q : Int) : decide (cmpZ P Q ≤ 0) = decide (P ≤ Q) := by
  rw [decide_eq_decide]
  rcases Int.lt_trichotomy P Q with h | h | h
  · rw [cmpZ_lt h]; omega
  · rw [cmpZ_eq h]; omega
  · rw [cmpZ_gt h]; omega
set_option maxHeartbeats 1000000 in
theorem isNear_any (a b c d p q r : Int) (w : World) (ha : Co a) (hb : Co b) (hc : Co c) (hd : Co d) (hp : Co p) (hq : Co q) (hne : ¬ (a = c ∧ b = d)) (r0 : 0 ≤ r) (r1 : r ≤ 10000) :
    Calls Tryz.prog 166 #[Sg a b c d, Pt p q, .int .i64 r] w fun e w' => e = .returned (.bool (wiB a b c d p q r)) ∧ Ext w w' := by
  obtain ⟨M1, M2⟩ := sqL_bd ha hb hc hd hne
  obtain ⟨T1, T2⟩ := crs_bd ha hb hc hd hp hq
  obtain ⟨U1, U2⟩ := ab_bd T1 T2
  obtain ⟨R1, R2⟩ := nn_bd r0 r1 r0 r1
  simp only [Int.reduceMul] at R2
  have z0 := ne_zero (p := p) (q := q) M1
  have z1 := ne_one (p := p) (q := q) M1
  replace hne := Lib.hid hne
  obtain ⟨⟨i0, i1, i2, i3⟩, _⟩ := ((Box.new4 (w := w) (n := w.heap.size) (x := .int .i64 a) (y := .int .i64 b) (z := .int .i64 c) (u := .int .i64 d) (t := 144) rfl).alloc (.cells #[.int .i64 p, .int .i64 q] 113)).four
  obtain ⟨⟨j0, j1⟩, _⟩ := (Box.new2 (w := w.alloc (.cells #[.int .i64 a, .int .i64 b, .int .i64 c, .int .i64 d] 144)) (n := w.heap.size + 1) (x := .int .i64 p) (y := .int .i64 q) (t := 113) (by simp)).two
  have hx := ((Ext.refl w).alloc (.cells #[.int .i64 a, .int .i64 b, .int .i64 c, .int .i64 d] 144)).alloc (.cells #[.int .i64 p, .int .i64 q] 113)
  have WI := Lib.hid (show wiB a b c d p q r = _ from rfl)
  have hL : (c - a) * (c - a) + (d - b) * (d - b) = sqL a b c d := rfl
  go_enter Tryz.func166, Tryz.ntmps166
  go_wp2_with fail
  refine (nearestPlace_any _ _ _ _ _ _ _ ha hb hc hd hp hq hne.out).mono ?_
  rintro e w1 ⟨rfl, hy⟩
  replace i0 := hy.cellOf i0; replace i1 := hy.cellOf i1; replace i2 := hy.cellOf i2; replace i3 := hy.cellOf i3; replace j0 := hy.cellOf j0; replace j1 := hy.cellOf j1; replace hx := hx.trans hy; clear hy
  have l0 := World.block_lt_of_cell? w1 _ i0
  have l1 := World.block_lt_of_cell? w1 _ j0
  simp only at l0 l1
  replace hx := hx.alloc (.cells #[.int .i64 (neN a b c d p q), .int .i64 (neD a b c d p q)] 175)
  have i0' := ((Ext.refl w1).alloc (.cells #[.int .i64 (neN a b c d p q), .int .i64 (neD a b c d p q)] 175))
  replace i0 := i0'.cellOf i0; replace i1 := i0'.cellOf i1; replace i2 := i0'.cellOf i2; replace i3 := i0'.cellOf i3; replace j0 := i0'.cellOf j0; replace j1 := i0'.cellOf j1
  clear i0'
  by_cases g1 : alg a b c d p q ≤ 0
  · have H := Lib.hid (show wiB a b c d p q r = decide (sqD a b p q ≤ r * r) from if_pos g1)
    have f0 : (neN a b c d p q == 0) = true := beq_iff_eq.2 (z0.2 g1)
    clear z0 z1 g1 WI
    go_wp2_with (first | (go_at_call 180; refine (vectorTo_any _ _ _ _ _ (by omega) (by omega) (by omega) (by omega)).mono ?_; rintro e w2 ⟨rfl, hy⟩; replace i0 := hy.cellOf i0; replace i1 := hy.cellOf i1; replace i2 := hy.cellOf i2; replace i3 := hy.cellOf i3; replace j0 := hy.cellOf j0; replace j1 := hy.cellOf j1; replace hx := hx.trans hy; clear hy) | (go_at_call 186; refine (squareLength_any _ _ _ (by omega) (by omega)).mono ?_; rintro e w2 ⟨rfl, hy⟩; replace i0 := hy.cellOf i0; replace i1 := hy.cellOf i1; replace i2 := hy.cellOf i2; replace i3 := hy.cellOf i3; replace j0 := hy.cellOf j0; replace j1 := hy.cellOf j1; replace hx := hx.trans hy; clear hy) | (go_at_call 188; refine (turnTo_any _ _ _ _ _ _ _ ha hb hc hd hp hq).mono ?_; rintro e w2 ⟨rfl, hy⟩; replace i0 := hy.cellOf i0; replace i1 := hy.cellOf i1; replace i2 := hy.cellOf i2; replace i3 := hy.cellOf i3; replace j0 := hy.cellOf j0; replace j1 := hy.cellOf j1; replace hx := hx.trans hy; clear hy) | (go_at_call 187; refine (absolute_any _ _ (by omega) (by omega)).mono ?_; rintro e w2 ⟨rfl, rfl⟩) | (go_at_call 160; refine (vector_any _ _ _ _ _ ha hb hc hd).mono ?_; rintro e w2 ⟨rfl, hy⟩; replace i0 := hy.cellOf i0; replace i1 := hy.cellOf i1; replace i2 := hy.cellOf i2; replace i3 := hy.cellOf i3; replace j0 := hy.cellOf j0; replace j1 := hy.cellOf j1; replace hx := hx.trans hy; clear hy) | (go_at_call 189; refine (compareProducts_int _ _ _ _ _ (by omega) (by omega) (by omega) (by omega) (by omega) (by omega) (by omega) (by omega)).mono ?_; rintro e w2 ⟨rfl, hy⟩; replace i0 := hy.cellOf i0; replace i1 := hy.cellOf i1; replace i2 := hy.cellOf i2; replace i3 := hy.cellOf i3; replace j0 := hy.cellOf j0; replace j1 := hy.cellOf j1; replace hx := hx.trans hy; clear hy))
    go_ret
    exact ⟨ret_bool H.out, hx⟩
  · have f0 : (neN a b c d p q == 0) = false := beq_eq_false_iff_ne.2 (fun h => g1 (z0.1 h))
    by_cases g2 : sqL a b c d ≤ alg a b c d p q
    · have H := Lib.hid (show wiB a b c d p q r = decide (sqD c d p q ≤ r * r) from (if_neg g1).trans (if_pos g2))
      have f1 : (neN a b c d p q == neD a b c d p q) = true := beq_iff_eq.2 (z1.2 g2)
      clear z0 z1 g1 g2 WI
      go_wp2_with (first | (go_at_call 180; refine (vectorTo_any _ _ _ _ _ (by omega) (by omega) (by omega) (by omega)).mono ?_; rintro e w2 ⟨rfl, hy⟩; replace i0 := hy.cellOf i0; replace i1 := hy.cellOf i1; replace i2 := hy.cellOf i2; replace i3 := hy.cellOf i3; replace j0 := hy.cellOf j0; replace j1 := hy.cellOf j1; replace hx := hx.trans hy; clear hy) | (go_at_call 186; refine (squareLength_any _ _ _ (by omega) (by omega)).mono ?_; rintro e w2 ⟨rfl, hy⟩; replace i0 := hy.cellOf i0; replace i1 := hy.cellOf i1; replace i2 := hy.cellOf i2; replace i3 := hy.cellOf i3; replace j0 := hy.cellOf j0; replace j1 := hy.cellOf j1; replace hx := hx.trans hy; clear hy) | (go_at_call 188; refine (turnTo_any _ _ _ _ _ _ _ ha hb hc hd hp hq).mono ?_; rintro e w2 ⟨rfl, hy⟩; replace i0 := hy.cellOf i0; replace i1 := hy.cellOf i1; replace i2 := hy.cellOf i2; replace i3 := hy.cellOf i3; replace j0 := hy.cellOf j0; replace j1 := hy.cellOf j1; replace hx := hx.trans hy; clear hy) | (go_at_call 187; refine (absolute_any _ _ (by omega) (by omega)).mono ?_; rintro e w2 ⟨rfl, rfl⟩) | (go_at_call 160; refine (vector_any _ _ _ _ _ ha hb hc hd).mono ?_; rintro e w2 ⟨rfl, hy⟩; replace i0 := hy.cellOf i0; replace i1 := hy.cellOf i1; replace i2 := hy.cellOf i2; replace i3 := hy.cellOf i3; replace j0 := hy.cellOf j0; replace j1 := hy.cellOf j1; replace hx := hx.trans hy; clear hy) | (go_at_call 189; refine (compareProducts_int _ _ _ _ _ (by omega) (by omega) (by omega) (by omega) (by omega) (by omega) (by omega) (by omega)).mono ?_; rintro e w2 ⟨rfl, hy⟩; replace i0 := hy.cellOf i0; replace i1 := hy.cellOf i1; replace i2 := hy.cellOf i2; replace i3 := hy.cellOf i3; replace j0 := hy.cellOf j0; replace j1 := hy.cellOf j1; replace hx := hx.trans hy; clear hy))
      go_ret
      exact ⟨ret_bool H.out, hx⟩
    · have H := Lib.hid (show wiB a b c d p q r = decide (cmpZ (ab (crs a b c d p q) * ab (crs a b c d p q)) (r * r * sqL a b c d) ≤ 0) by
        rw [cmp_le, ab_sq]; exact (if_neg g1).trans (if_neg g2))
      have f1 : (neN a b c d p q == neD a b c d p q) = false := beq_eq_false_iff_ne.2 (fun h => g2 (z1.1 h))
      clear z0 z1 g1 g2 WI
      go_wp2_with (first | (go_at_call 180; refine (vectorTo_any _ _ _ _ _ (by omega) (by omega) (by omega) (by omega)).mono ?_; rintro e w2 ⟨rfl, hy⟩; replace i0 := hy.cellOf i0; replace i1 := hy.cellOf i1; replace i2 := hy.cellOf i2; replace i3 := hy.cellOf i3; replace j0 := hy.cellOf j0; replace j1 := hy.cellOf j1; replace hx := hx.trans hy; clear hy) | (go_at_call 186; refine (squareLength_any _ _ _ (by omega) (by omega)).mono ?_; rintro e w2 ⟨rfl, hy⟩; replace i0 := hy.cellOf i0; replace i1 := hy.cellOf i1; replace i2 := hy.cellOf i2; replace i3 := hy.cellOf i3; replace j0 := hy.cellOf j0; replace j1 := hy.cellOf j1; replace hx := hx.trans hy; clear hy) | (go_at_call 188; refine (turnTo_any _ _ _ _ _ _ _ ha hb hc hd hp hq).mono ?_; rintro e w2 ⟨rfl, hy⟩; replace i0 := hy.cellOf i0; replace i1 := hy.cellOf i1; replace i2 := hy.cellOf i2; replace i3 := hy.cellOf i3; replace j0 := hy.cellOf j0; replace j1 := hy.cellOf j1; replace hx := hx.trans hy; clear hy) | (go_at_call 187; refine (absolute_any _ _ (by omega) (by omega)).mono ?_; rintro e w2 ⟨rfl, rfl⟩) | (go_at_call 160; refine (vector_any _ _ _ _ _ ha hb hc hd).mono ?_; rintro e w2 ⟨rfl, hy⟩; replace i0 := hy.cellOf i0; replace i1 := hy.cellOf i1; replace i2 := hy.cellOf i2; replace i3 := hy.cellOf i3; replace j0 := hy.cellOf j0; replace j1 := hy.cellOf j1; replace hx := hx.trans hy; clear hy) | (go_at_call 189; refine (compareProducts_int _ _ _ _ _ (by omega) (by omega) (by omega) (by omega) (by omega) (by omega) (by omega) (by omega)).mono ?_; rintro e w2 ⟨rfl, hy⟩; replace i0 := hy.cellOf i0; replace i1 := hy.cellOf i1; replace i2 := hy.cellOf i2; replace i3 := hy.cellOf i3; replace j0 := hy.cellOf j0; replace j1 := hy.cellOf j1; replace hx := hx.trans hy; clear hy))
      go_ret
      exact ⟨ret_bool H.out, hx⟩
end Go.Proofs.YtknelhceaoblhaaGreat.Win
