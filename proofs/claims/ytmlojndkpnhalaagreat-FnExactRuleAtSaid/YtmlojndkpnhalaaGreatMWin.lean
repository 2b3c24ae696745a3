import Derived.Test.YtmlojndkpnhalaaGreatMRel
import Derived.Test.YtmlojndkpnhalaaGreatMRoot
import Derived.Test.YtmlojndkpnhalaaGreatMRat
import Derived.Test.YtmlojndkpnhalaaGreatMPts
namespace Go.Proofs.YtmlojndkpnhalaaGreat.Win
open Go.ChangeShapes Go.WideShapes Go.ChangeAt Go.RowKit
open Go.Proofs.YtmlojndkpnhalaaGreat.Num Go.Proofs.YtmlojndkpnhalaaGreat.Kit Go.Proofs.YtmlojndkpnhalaaGreat.Pts Go.Proofs.YtmlojndkpnhalaaGreat.Seg Go.Proofs.YtmlojndkpnhalaaGreat.Gcd Go.Proofs.YtmlojndkpnhalaaGreat.Cmp Go.Proofs.YtmlojndkpnhalaaGreat.Rt Go.Proofs.YtmlojndkpnhalaaGreat.Wid
set_option linter.unusedVariables false
set_option linter.unusedSimpArgs false
def wiB (a b c d p q r : Int) : Bool :=
  if alg a b c d p q ≤ 0 then decide (sqD a b p q ≤ r * r)
  else if sqL a b c d ≤ alg a b c d p q then decide (sqD c d p q ≤ r * r)
  else decide (crs a b c d p q * crs a b c d p q ≤ r * r * sqL a b c d)
theorem idA (a b c d p q : Int) : crs a b c d p q * crs a b c d p q + alg a b c d p q * alg a b c d p q = sqL a b c d * sqD a b p q := by
  unfold crs alg sqL sqD; grind
theorem idB (a b c d p q : Int) : crs a b c d p q * crs a b c d p q + (alg a b c d p q - sqL a b c d) * (alg a b c d p q - sqL a b c d) = sqL a b c d * sqD c d p q := by
  unfold crs alg sqL sqD; grind
theorem idAB (a b c d p q : Int) : sqD c d p q - sqD a b p q = sqL a b c d - 2 * alg a b c d p q := by
  unfold alg sqL sqD; grind
theorem wiB_spec (a b c d p q r : Int) (hm : 1 ≤ sqL a b c d) : wiB a b c d p q r =
    ((decide (sqD a b p q ≤ r * r) || decide (sqD c d p q ≤ r * r)) || (!(decide (alg a b c d p q ≤ 0) || decide (sqL a b c d ≤ alg a b c d p q)) && decide (crs a b c d p q * crs a b c d p q ≤ r * r * sqL a b c d))) := by
  have h1 := idA a b c d p q
  have h2 := idB a b c d p q
  have h3 := idAB a b c d p q
  have s1 := sqn (alg a b c d p q)
  have s2 := sqn (alg a b c d p q - sqL a b c d)
  have m1 : sqD a b p q ≤ r * r → sqL a b c d * sqD a b p q ≤ r * r * sqL a b c d := fun h => by
    rw [Int.mul_comm (r * r)]; exact Int.mul_le_mul_of_nonneg_left h (by omega)
  have m2 : sqD c d p q ≤ r * r → sqL a b c d * sqD c d p q ≤ r * r * sqL a b c d := fun h => by
    rw [Int.mul_comm (r * r)]; exact Int.mul_le_mul_of_nonneg_left h (by omega)
  unfold wiB
  by_cases g1 : alg a b c d p q ≤ 0
  · rw [if_pos g1, decide_eq_true g1, Bool.eq_iff_iff]
    simp only [Bool.true_or, Bool.not_true, Bool.false_and, Bool.or_false, Bool.or_eq_true, decide_eq_true_eq]
    omega
  · rw [if_neg g1, decide_eq_false g1]
    by_cases g2 : sqL a b c d ≤ alg a b c d p q
    · rw [if_pos g2, decide_eq_true g2, Bool.eq_iff_iff]
      simp only [Bool.or_true, Bool.not_true, Bool.false_and, Bool.or_false, Bool.or_eq_true, decide_eq_true_eq]
      omega
    · rw [if_neg g2, decide_eq_false g2, Bool.eq_iff_iff]
      simp only [Bool.or_false, Bool.not_false, Bool.true_and, Bool.or_eq_true, decide_eq_true_eq]
      constructor
      · exact fun h => .inr h
      · rintro ((h | h) | h)
        · have := m1 h; omega
        · have := m2 h; omega
        · exact h
theorem le_rt {x K : Int} (hx : 0 ≤ x) (hK : 0 ≤ K) : decide (x ≤ rt K) = decide (x * x ≤ K) := by
  rw [decide_eq_decide]
  constructor
  · intro h
    have := sq_le hx h
    have := rt_sq hK
    omega
  · exact fun h => rt_max hx h
theorem ab_sq (n : Int) : ab n * ab n = n * n := by
  unfold ab; by_cases h : n < 0
  · rw [if_pos h, Int.neg_mul_neg]
  · rw [if_neg h]
theorem gc_dvd_left (a b : Int) (ha : 0 ≤ a) : ∃ k, a = gc a b * k := by
  unfold gc
  obtain ⟨k, hk⟩ := Nat.gcd_dvd_left a.toNat b.toNat
  exact ⟨k, by have : ((a.toNat : Nat) : Int) = ((a.toNat.gcd b.toNat * k : Nat) : Int) := congrArg _ hk; rw [Int.natCast_mul] at this; omega⟩
theorem gc_dvd_right (a b : Int) (hb : 0 ≤ b) : ∃ k, b = gc a b * k := by
  unfold gc
  obtain ⟨k, hk⟩ := Nat.gcd_dvd_right a.toNat b.toNat
  exact ⟨k, by have : ((b.toNat : Nat) : Int) = ((a.toNat.gcd b.toNat * k : Nat) : Int) := congrArg _ hk; rw [Int.natCast_mul] at this; omega⟩
theorem low_zero {a b : Int} (ha : 0 ≤ a) (hb : 1 ≤ b) : a / gc a b = 0 ↔ a = 0 := by
  have hg := gc_pos (a := a) hb
  obtain ⟨k, hk⟩ := gc_dvd_left a b ha
  have e : a / gc a b = k := by
    rw [Int.ediv_eq_iff_eq_mul_right (by omega) ⟨k, hk⟩]; exact hk
  rw [e]
  constructor
  · intro h; rw [hk, h, Int.mul_zero]
  · intro h
    have h2 : gc a b * k = 0 := hk.symm.trans h
    rcases Int.mul_eq_zero.1 h2 with h3 | h3
    · omega
    · exact h3
theorem low_one {a b : Int} (ha : 0 ≤ a) (hb : 1 ≤ b) : a / gc a b = b / gc a b ↔ a = b := by
  have hg := gc_pos (a := a) hb
  obtain ⟨k, hk⟩ := gc_dvd_left a b ha
  obtain ⟨l, hl⟩ := gc_dvd_right a b (by omega)
  have e : a / gc a b = k := by
    rw [Int.ediv_eq_iff_eq_mul_right (by omega) ⟨k, hk⟩]; exact hk
  have e2 : b / gc a b = l := by
    rw [Int.ediv_eq_iff_eq_mul_right (by omega) ⟨l, hl⟩]; exact hl
  rw [e, e2]
  clear e e2
  generalize gc a b = G at *
  constructor
  · intro h; rw [hk, hl, h]
  · intro h
    have h2 : G * k = G * l := by rw [← hk, ← hl, h]
    exact Int.eq_of_mul_eq_mul_left (by omega) h2
theorem cl_bd (n : Int) {m : Int} (hm : 1 ≤ m) : 0 ≤ cl n m ∧ cl n m ≤ m ∧ (cl n m = 0 ↔ n ≤ 0) ∧ (cl n m = m ↔ m ≤ n) := by
  unfold cl; by_cases h : n < 0
  · rw [if_pos h]; omega
  · by_cases g : m < n
    · rw [if_neg h, if_pos g]; omega
    · rw [if_neg h, if_neg g]; omega
theorem ne_zero {a b c d p q : Int} (hm : 1 ≤ sqL a b c d) : neN a b c d p q = 0 ↔ alg a b c d p q ≤ 0 := by
  obtain ⟨h1, h2, h3, h4⟩ := cl_bd (alg a b c d p q) hm
  exact (low_zero h1 hm).trans h3
theorem ne_one {a b c d p q : Int} (hm : 1 ≤ sqL a b c d) : neN a b c d p q = neD a b c d p q ↔ sqL a b c d ≤ alg a b c d p q := by
  obtain ⟨h1, h2, h3, h4⟩ := cl_bd (alg a b c d p q) hm
  exact (low_one h1 hm).trans h4
theorem cmp_le (P Q : Int) : decide (cmpZ P Q ≤ 0) = decide (P ≤ Q) := by
  rw [decide_eq_decide]
  rcases Int.lt_trichotomy P Q with h | h | h
  · rw [cmpZ_lt h]; omega
  · rw [cmpZ_eq h]; omega
  · rw [cmpZ_gt h]; omega
set_option maxHeartbeats 1000000 in
theorem isNear_any (a b c d p q r : Int) (w : World) (ha : Co a) (hb : Co b) (hc : Co c) (hd : Co d) (hp : Co p) (hq : Co q) (hne : ¬ (a = c ∧ b = d)) (r0 : 0 ≤ r) (r1 : r ≤ 10000) :
    Calls Tryz.prog 208 #[Sg a b c d, Pt p q, .int .i64 r] w fun e w' => e = .returned (.bool (wiB a b c d p q r)) ∧ Ext w w' := by
  obtain ⟨M1, M2⟩ := sqL_bd ha hb hc hd hne
  obtain ⟨T1, T2⟩ := crs_bd ha hb hc hd hp hq
  obtain ⟨U1, U2⟩ := ab_bd T1 T2
  obtain ⟨R1, R2⟩ := nn_bd r0 r1 r0 r1
  simp only [Int.reduceMul] at R2
  have z0 := ne_zero (p := p) (q := q) M1
  have z1 := ne_one (p := p) (q := q) M1
  replace hne := Lib.hid hne
  obtain ⟨⟨i0, i1, i2, i3⟩, _⟩ := ((Box.new4 (w := w) (n := w.heap.size) (x := .int .i64 a) (y := .int .i64 b) (z := .int .i64 c) (u := .int .i64 d) (t := 225) rfl).alloc (.cells #[.int .i64 p, .int .i64 q] 25)).four
  obtain ⟨⟨j0, j1⟩, _⟩ := (Box.new2 (w := w.alloc (.cells #[.int .i64 a, .int .i64 b, .int .i64 c, .int .i64 d] 225)) (n := w.heap.size + 1) (x := .int .i64 p) (y := .int .i64 q) (t := 25) (by simp)).two
  have hx := ((Ext.refl w).alloc (.cells #[.int .i64 a, .int .i64 b, .int .i64 c, .int .i64 d] 225)).alloc (.cells #[.int .i64 p, .int .i64 q] 25)
  have WI := Lib.hid (show wiB a b c d p q r = _ from rfl)
  have hL : (c - a) * (c - a) + (d - b) * (d - b) = sqL a b c d := rfl
  go_enter Tryz.func208, Tryz.ntmps208
  go_wp2_with fail
  refine (nearestPlace_any _ _ _ _ _ _ _ ha hb hc hd hp hq hne.out).mono ?_
  rintro e w1 ⟨rfl, hy⟩
  replace i0 := hy.cellOf i0; replace i1 := hy.cellOf i1; replace i2 := hy.cellOf i2; replace i3 := hy.cellOf i3; replace j0 := hy.cellOf j0; replace j1 := hy.cellOf j1; replace hx := hx.trans hy; clear hy
  have l0 := World.block_lt_of_cell? w1 _ i0
  have l1 := World.block_lt_of_cell? w1 _ j0
  simp only at l0 l1
  replace hx := hx.alloc (.cells #[.int .i64 (neN a b c d p q), .int .i64 (neD a b c d p q)] 186)
  have i0' := ((Ext.refl w1).alloc (.cells #[.int .i64 (neN a b c d p q), .int .i64 (neD a b c d p q)] 186))
  replace i0 := i0'.cellOf i0; replace i1 := i0'.cellOf i1; replace i2 := i0'.cellOf i2; replace i3 := i0'.cellOf i3; replace j0 := i0'.cellOf j0; replace j1 := i0'.cellOf j1
  clear i0'
  by_cases g1 : alg a b c d p q ≤ 0
  · have H := Lib.hid (show wiB a b c d p q r = decide (sqD a b p q ≤ r * r) from if_pos g1)
    have f0 : (neN a b c d p q == 0) = true := beq_iff_eq.2 (z0.2 g1)
    clear z0 z1 g1 WI
    go_wp2_with (first | (go_at_call 243; refine (vectorTo_any _ _ _ _ _ (by omega) (by omega) (by omega) (by omega)).mono ?_; rintro e w2 ⟨rfl, hy⟩; replace i0 := hy.cellOf i0; replace i1 := hy.cellOf i1; replace i2 := hy.cellOf i2; replace i3 := hy.cellOf i3; replace j0 := hy.cellOf j0; replace j1 := hy.cellOf j1; replace hx := hx.trans hy; clear hy) | (go_at_call 261; refine (squareLength_any _ _ _ (by omega) (by omega)).mono ?_; rintro e w2 ⟨rfl, hy⟩; replace i0 := hy.cellOf i0; replace i1 := hy.cellOf i1; replace i2 := hy.cellOf i2; replace i3 := hy.cellOf i3; replace j0 := hy.cellOf j0; replace j1 := hy.cellOf j1; replace hx := hx.trans hy; clear hy) | (go_at_call 263; refine (turnTo_any _ _ _ _ _ _ _ ha hb hc hd hp hq).mono ?_; rintro e w2 ⟨rfl, hy⟩; replace i0 := hy.cellOf i0; replace i1 := hy.cellOf i1; replace i2 := hy.cellOf i2; replace i3 := hy.cellOf i3; replace j0 := hy.cellOf j0; replace j1 := hy.cellOf j1; replace hx := hx.trans hy; clear hy) | (go_at_call 162; refine (absolute_any _ _ (by omega) (by omega)).mono ?_; rintro e w2 ⟨rfl, rfl⟩) | (go_at_call 194; refine (vector_any _ _ _ _ _ ha hb hc hd).mono ?_; rintro e w2 ⟨rfl, hy⟩; replace i0 := hy.cellOf i0; replace i1 := hy.cellOf i1; replace i2 := hy.cellOf i2; replace i3 := hy.cellOf i3; replace j0 := hy.cellOf j0; replace j1 := hy.cellOf j1; replace hx := hx.trans hy; clear hy) | (go_at_call 264; refine (compareProducts_int _ _ _ _ _ (by omega) (by omega) (by omega) (by omega) (by omega) (by omega) (by omega) (by omega)).mono ?_; rintro e w2 ⟨rfl, hy⟩; replace i0 := hy.cellOf i0; replace i1 := hy.cellOf i1; replace i2 := hy.cellOf i2; replace i3 := hy.cellOf i3; replace j0 := hy.cellOf j0; replace j1 := hy.cellOf j1; replace hx := hx.trans hy; clear hy))
    go_ret
    exact ⟨ret_bool H.out, hx⟩
  · have f0 : (neN a b c d p q == 0) = false := beq_eq_false_iff_ne.2 (fun h => g1 (z0.1 h))
    by_cases g2 : sqL a b c d ≤ alg a b c d p q
    · have H := Lib.hid (show wiB a b c d p q r = decide (sqD c d p q ≤ r * r) from (if_neg g1).trans (if_pos g2))
      have f1 : (neN a b c d p q == neD a b c d p q) = true := beq_iff_eq.2 (z1.2 g2)
      clear z0 z1 g1 g2 WI
      go_wp2_with (first | (go_at_call 243; refine (vectorTo_any _ _ _ _ _ (by omega) (by omega) (by omega) (by omega)).mono ?_; rintro e w2 ⟨rfl, hy⟩; replace i0 := hy.cellOf i0; replace i1 := hy.cellOf i1; replace i2 := hy.cellOf i2; replace i3 := hy.cellOf i3; replace j0 := hy.cellOf j0; replace j1 := hy.cellOf j1; replace hx := hx.trans hy; clear hy) | (go_at_call 261; refine (squareLength_any _ _ _ (by omega) (by omega)).mono ?_; rintro e w2 ⟨rfl, hy⟩; replace i0 := hy.cellOf i0; replace i1 := hy.cellOf i1; replace i2 := hy.cellOf i2; replace i3 := hy.cellOf i3; replace j0 := hy.cellOf j0; replace j1 := hy.cellOf j1; replace hx := hx.trans hy; clear hy) | (go_at_call 263; refine (turnTo_any _ _ _ _ _ _ _ ha hb hc hd hp hq).mono ?_; rintro e w2 ⟨rfl, hy⟩; replace i0 := hy.cellOf i0; replace i1 := hy.cellOf i1; replace i2 := hy.cellOf i2; replace i3 := hy.cellOf i3; replace j0 := hy.cellOf j0; replace j1 := hy.cellOf j1; replace hx := hx.trans hy; clear hy) | (go_at_call 162; refine (absolute_any _ _ (by omega) (by omega)).mono ?_; rintro e w2 ⟨rfl, rfl⟩) | (go_at_call 194; refine (vector_any _ _ _ _ _ ha hb hc hd).mono ?_; rintro e w2 ⟨rfl, hy⟩; replace i0 := hy.cellOf i0; replace i1 := hy.cellOf i1; replace i2 := hy.cellOf i2; replace i3 := hy.cellOf i3; replace j0 := hy.cellOf j0; replace j1 := hy.cellOf j1; replace hx := hx.trans hy; clear hy) | (go_at_call 264; refine (compareProducts_int _ _ _ _ _ (by omega) (by omega) (by omega) (by omega) (by omega) (by omega) (by omega) (by omega)).mono ?_; rintro e w2 ⟨rfl, hy⟩; replace i0 := hy.cellOf i0; replace i1 := hy.cellOf i1; replace i2 := hy.cellOf i2; replace i3 := hy.cellOf i3; replace j0 := hy.cellOf j0; replace j1 := hy.cellOf j1; replace hx := hx.trans hy; clear hy))
      go_ret
      exact ⟨ret_bool H.out, hx⟩
    · have H := Lib.hid (show wiB a b c d p q r = decide (cmpZ (ab (crs a b c d p q) * ab (crs a b c d p q)) (r * r * sqL a b c d) ≤ 0) by
        rw [cmp_le, ab_sq]; exact (if_neg g1).trans (if_neg g2))
      have f1 : (neN a b c d p q == neD a b c d p q) = false := beq_eq_false_iff_ne.2 (fun h => g2 (z1.1 h))
      clear z0 z1 g1 g2 WI
      go_wp2_with (first | (go_at_call 243; refine (vectorTo_any _ _ _ _ _ (by omega) (by omega) (by omega) (by omega)).mono ?_; rintro e w2 ⟨rfl, hy⟩; replace i0 := hy.cellOf i0; replace i1 := hy.cellOf i1; replace i2 := hy.cellOf i2; replace i3 := hy.cellOf i3; replace j0 := hy.cellOf j0; replace j1 := hy.cellOf j1; replace hx := hx.trans hy; clear hy) | (go_at_call 261; refine (squareLength_any _ _ _ (by omega) (by omega)).mono ?_; rintro e w2 ⟨rfl, hy⟩; replace i0 := hy.cellOf i0; replace i1 := hy.cellOf i1; replace i2 := hy.cellOf i2; replace i3 := hy.cellOf i3; replace j0 := hy.cellOf j0; replace j1 := hy.cellOf j1; replace hx := hx.trans hy; clear hy) | (go_at_call 263; refine (turnTo_any _ _ _ _ _ _ _ ha hb hc hd hp hq).mono ?_; rintro e w2 ⟨rfl, hy⟩; replace i0 := hy.cellOf i0; replace i1 := hy.cellOf i1; replace i2 := hy.cellOf i2; replace i3 := hy.cellOf i3; replace j0 := hy.cellOf j0; replace j1 := hy.cellOf j1; replace hx := hx.trans hy; clear hy) | (go_at_call 162; refine (absolute_any _ _ (by omega) (by omega)).mono ?_; rintro e w2 ⟨rfl, rfl⟩) | (go_at_call 194; refine (vector_any _ _ _ _ _ ha hb hc hd).mono ?_; rintro e w2 ⟨rfl, hy⟩; replace i0 := hy.cellOf i0; replace i1 := hy.cellOf i1; replace i2 := hy.cellOf i2; replace i3 := hy.cellOf i3; replace j0 := hy.cellOf j0; replace j1 := hy.cellOf j1; replace hx := hx.trans hy; clear hy) | (go_at_call 264; refine (compareProducts_int _ _ _ _ _ (by omega) (by omega) (by omega) (by omega) (by omega) (by omega) (by omega) (by omega)).mono ?_; rintro e w2 ⟨rfl, hy⟩; replace i0 := hy.cellOf i0; replace i1 := hy.cellOf i1; replace i2 := hy.cellOf i2; replace i3 := hy.cellOf i3; replace j0 := hy.cellOf j0; replace j1 := hy.cellOf j1; replace hx := hx.trans hy; clear hy))
      go_ret
      exact ⟨ret_bool H.out, hx⟩
end Go.Proofs.YtmlojndkpnhalaaGreat.Win
namespace Go.Proofs.YtmlojndkpnhalaaGreat.Win
open Go.ChangeShapes Go.WideShapes Go.ChangeAt Go.RowKit
open Go.Proofs.YtmlojndkpnhalaaGreat.Num Go.Proofs.YtmlojndkpnhalaaGreat.Kit Go.Proofs.YtmlojndkpnhalaaGreat.Pts Go.Proofs.YtmlojndkpnhalaaGreat.Seg Go.Proofs.YtmlojndkpnhalaaGreat.Gcd Go.Proofs.YtmlojndkpnhalaaGreat.Cmp Go.Proofs.YtmlojndkpnhalaaGreat.Rt Go.Proofs.YtmlojndkpnhalaaGreat.Wid
set_option linter.unusedVariables false
set_option linter.unusedSimpArgs false
theorem Ext.of_eq {w w' : World} (h : w = w') : Ext w w' := by subst h; exact Ext.refl _
set_option maxHeartbeats 2000000 in
theorem within_any (a b c d p q r : Int) (w : World) (ha : Co a) (hb : Co b) (hc : Co c) (hd : Co d) (hp : Co p) (hq : Co q) (hne : ¬ (a = c ∧ b = d)) (r0 : 0 ≤ r) (r1 : r ≤ 10000) :
    Calls Tryz.prog 206 #[Sg a b c d, Pt p q, .int .i64 r] w fun e w' => e = .returned (.bool (wiB a b c d p q r)) ∧ Ext w w' := by
  obtain ⟨M1, M2⟩ := sqL_bd ha hb hc hd hne
  obtain ⟨T1, T2⟩ := crs_bd ha hb hc hd hp hq
  have hT1 : -1000000000000000000 ≤ (c - a) * (q - b) - (d - b) * (p - a) := by have := T1; unfold crs at this; omega
  have hT2 : (c - a) * (q - b) - (d - b) * (p - a) ≤ 1000000000000000000 := by have := T2; unfold crs at this; omega
  obtain ⟨U1, U2⟩ := ab_bd T1 T2
  obtain ⟨R1, R2⟩ := nn_bd r0 r1 r0 r1
  simp only [Int.reduceMul] at R2
  have WS := wiB_spec a b c d p q r M1
  clear hne
  have B0 := Lib.hid ((Box.new4 (w := w) (n := w.heap.size) (x := .int .i64 a) (y := .int .i64 b) (z := .int .i64 c) (u := .int .i64 d) (t := 225) rfl).alloc (.cells #[.int .i64 p, .int .i64 q] 25))
  have B1 := Lib.hid (Box.new2 (w := w.alloc (.cells #[.int .i64 a, .int .i64 b, .int .i64 c, .int .i64 d] 225)) (n := w.heap.size + 1) (x := .int .i64 p) (y := .int .i64 q) (t := 25) (by simp))
  have hx := ((Ext.refl w).alloc (.cells #[.int .i64 a, .int .i64 b, .int .i64 c, .int .i64 d] 225)).alloc (.cells #[.int .i64 p, .int .i64 q] 25)
  by_cases s1 : sqD a b p q ≤ r * r
  · have H := Lib.hid (show wiB a b c d p q r = true by rw [WS, decide_eq_true s1]; rfl)
    clear WS
    obtain ⟨⟨i0, i1, i2, i3⟩, _⟩ := B0.out.four
    obtain ⟨⟨j0, j1⟩, _⟩ := B1.out.two
    go_enter Tryz.func206, Tryz.ntmps206
    go_wp2_with (go_at_call 205; refine (square_any _ _ _ _ _ (by omega) (by omega) (by omega) (by omega)).mono ?_; rintro e w1 ⟨rfl, hy⟩; replace B0 := Lib.hid (B0.out.ext hy); replace B1 := Lib.hid (B1.out.ext hy); replace hx := hx.trans hy; clear hy; (try clear i0 i1 i2 i3 j0 j1); obtain ⟨⟨i0, i1, i2, i3⟩, _⟩ := B0.out.four; obtain ⟨⟨j0, j1⟩, _⟩ := B1.out.two)
    go_ret
    exact ⟨ret_bool H.out, hx⟩
  by_cases s2 : sqD c d p q ≤ r * r
  · have H := Lib.hid (show wiB a b c d p q r = true by rw [WS, decide_eq_true s2]; simp)
    clear WS
    obtain ⟨⟨i0, i1, i2, i3⟩, _⟩ := B0.out.four
    obtain ⟨⟨j0, j1⟩, _⟩ := B1.out.two
    go_enter Tryz.func206, Tryz.ntmps206
    go_wp2_with (go_at_call 205; refine (square_any _ _ _ _ _ (by omega) (by omega) (by omega) (by omega)).mono ?_; rintro e w1 ⟨rfl, hy⟩; replace B0 := Lib.hid (B0.out.ext hy); replace B1 := Lib.hid (B1.out.ext hy); replace hx := hx.trans hy; clear hy; (try clear i0 i1 i2 i3 j0 j1); obtain ⟨⟨i0, i1, i2, i3⟩, _⟩ := B0.out.four; obtain ⟨⟨j0, j1⟩, _⟩ := B1.out.two)
    go_ret
    exact ⟨ret_bool H.out, hx⟩
  rw [decide_eq_false s1, decide_eq_false s2] at WS
  replace WS := Lib.hid WS
  obtain ⟨⟨i0, i1, i2, i3⟩, _⟩ := B0.out.four
  obtain ⟨⟨j0, j1⟩, _⟩ := B1.out.two
  go_enter Tryz.func206, Tryz.ntmps206
  go_wp2_with (go_at_call 205; refine (square_any _ _ _ _ _ (by omega) (by omega) (by omega) (by omega)).mono ?_; rintro e w1 ⟨rfl, hy⟩; replace B0 := Lib.hid (B0.out.ext hy); replace B1 := Lib.hid (B1.out.ext hy); replace hx := hx.trans hy; clear hy; (try clear i0 i1 i2 i3 j0 j1); obtain ⟨⟨i0, i1, i2, i3⟩, _⟩ := B0.out.four; obtain ⟨⟨j0, j1⟩, _⟩ := B1.out.two)
  refine (minus_any _ _ _ _ _ hc hd ha hb).mono ?_
  rintro e w3 ⟨rfl, hy⟩
  replace B0 := Lib.hid ((B0.out.ext hy).alloc (.cells #[.int .i64 (c - a), .int .i64 (d - b)] 25))
  replace B1 := Lib.hid ((B1.out.ext hy).alloc (.cells #[.int .i64 (c - a), .int .i64 (d - b)] 25))
  have B3 := Lib.hid (Box.new2 (w := w3) (n := w3.heap.size) (x := .int .i64 (c - a)) (y := .int .i64 (d - b)) (t := 25) rfl)
  replace hx := (hx.trans hy).alloc (.cells #[.int .i64 (c - a), .int .i64 (d - b)] 25)
  clear hy i0 i1 i2 i3 j0 j1
  go_wp2_with fail
  have e0 : ∀ w', Ext (w3.alloc (.cells #[.int .i64 (c - a), .int .i64 (d - b)] 25)) w' → w'.cell? ⟨w.heap.size, 0, none⟩ = some (.int .i64 a) := fun w' h => h.cellOf (B0.out 0 _ rfl).1
  have e1 : ∀ w', Ext (w3.alloc (.cells #[.int .i64 (c - a), .int .i64 (d - b)] 25)) w' → w'.cell? ⟨w.heap.size, 1, none⟩ = some (.int .i64 b) := fun w' h => h.cellOf (B0.out 1 _ rfl).1
  have e2 : ∀ w', Ext (w3.alloc (.cells #[.int .i64 (c - a), .int .i64 (d - b)] 25)) w' → w'.cell? ⟨w.heap.size, 2, none⟩ = some (.int .i64 c) := fun w' h => h.cellOf (B0.out 2 _ rfl).1
  have e3 : ∀ w', Ext (w3.alloc (.cells #[.int .i64 (c - a), .int .i64 (d - b)] 25)) w' → w'.cell? ⟨w.heap.size, 3, none⟩ = some (.int .i64 d) := fun w' h => h.cellOf (B0.out 3 _ rfl).1
  have e4 : ∀ w', Ext (w3.alloc (.cells #[.int .i64 (c - a), .int .i64 (d - b)] 25)) w' → w'.cell? ⟨w.heap.size + 1, 0, none⟩ = some (.int .i64 p) := fun w' h => h.cellOf (B1.out 0 _ rfl).1
  have e5 : ∀ w', Ext (w3.alloc (.cells #[.int .i64 (c - a), .int .i64 (d - b)] 25)) w' → w'.cell? ⟨w.heap.size + 1, 1, none⟩ = some (.int .i64 q) := fun w' h => h.cellOf (B1.out 1 _ rfl).1
  have e6 : ∀ w', Ext (w3.alloc (.cells #[.int .i64 (c - a), .int .i64 (d - b)] 25)) w' → w'.cell? ⟨w3.heap.size, 0, none⟩ = some (.int .i64 (c - a)) := fun w' h => h.cellOf (B3.out 0 _ rfl).1
  have e7 : ∀ w', Ext (w3.alloc (.cells #[.int .i64 (c - a), .int .i64 (d - b)] 25)) w' → w'.cell? ⟨w3.heap.size, 1, none⟩ = some (.int .i64 (d - b)) := fun w' h => h.cellOf (B3.out 1 _ rfl).1
  go_region_held3 (fun w' => Ext (w3.alloc (.cells #[.int .i64 (c - a), .int .i64 (d - b)] 25)) w')
    (first | exact (Ext.refl _).drew | exact Ext.trans (by assumption) hy)
    (first | (go_at_call 131; refine (minus_any _ _ _ _ _ (by omega) (by omega) (by omega) (by omega)).mono ?_; rintro e w5 ⟨rfl, hy⟩) | (go_at_call 133; refine (dot_any _ _ _ _ _ (by omega) (by omega) (by omega) (by omega)).mono ?_; rintro e w5 ⟨rfl, hy⟩))
  clear e0 e1 e2 e3 e4 e5 e6 e7 hy
  rename_i hy
  replace B0 := Lib.hid (B0.out.ext hy)
  replace B1 := Lib.hid (B1.out.ext hy)
  replace B3 := Lib.hid (B3.out.ext hy)
  replace hx := hx.trans hy
  clear hy
  rw [show (c - a) * (c - a) + (d - b) * (d - b) = sqL a b c d from rfl, show (c - a) * (p - a) + (d - b) * (q - b) = alg a b c d p q from rfl]
  by_cases g1 : alg a b c d p q ≤ 0
  · have H := Lib.hid (show wiB a b c d p q r = false by rw [WS.out, decide_eq_true g1]; simp)
    go_wp2
    go_ret
    exact ⟨ret_bool H.out, hx⟩
  by_cases g2 : sqL a b c d ≤ alg a b c d p q
  · have H := Lib.hid (show wiB a b c d p q r = false by rw [WS.out, decide_eq_true g2]; simp)
    go_wp2
    go_ret
    exact ⟨ret_bool H.out, hx⟩
  have H := Lib.hid (show wiB a b c d p q r = decide (ab (crs a b c d p q) ≤ rt (r * r * sqL a b c d)) by
    rw [WS.out, decide_eq_false g1, decide_eq_false g2, le_rt U1 (Int.mul_nonneg R1 (by omega)), ab_sq]; simp)
  have e0 : ∀ w', Ext w5 w' → w'.cell? ⟨w.heap.size, 0, none⟩ = some (.int .i64 a) := fun w' h => h.cellOf (B0.out 0 _ rfl).1
  have e1 : ∀ w', Ext w5 w' → w'.cell? ⟨w.heap.size, 1, none⟩ = some (.int .i64 b) := fun w' h => h.cellOf (B0.out 1 _ rfl).1
  have e2 : ∀ w', Ext w5 w' → w'.cell? ⟨w.heap.size, 2, none⟩ = some (.int .i64 c) := fun w' h => h.cellOf (B0.out 2 _ rfl).1
  have e3 : ∀ w', Ext w5 w' → w'.cell? ⟨w.heap.size, 3, none⟩ = some (.int .i64 d) := fun w' h => h.cellOf (B0.out 3 _ rfl).1
  have e4 : ∀ w', Ext w5 w' → w'.cell? ⟨w.heap.size + 1, 0, none⟩ = some (.int .i64 p) := fun w' h => h.cellOf (B1.out 0 _ rfl).1
  have e5 : ∀ w', Ext w5 w' → w'.cell? ⟨w.heap.size + 1, 1, none⟩ = some (.int .i64 q) := fun w' h => h.cellOf (B1.out 1 _ rfl).1
  have e6 : ∀ w', Ext w5 w' → w'.cell? ⟨w3.heap.size, 0, none⟩ = some (.int .i64 (c - a)) := fun w' h => h.cellOf (B3.out 0 _ rfl).1
  have e7 : ∀ w', Ext w5 w' → w'.cell? ⟨w3.heap.size, 1, none⟩ = some (.int .i64 (d - b)) := fun w' h => h.cellOf (B3.out 1 _ rfl).1
  clear hy
  go_wp2_with fail
  go_region_held3 (fun w' => Ext w5 w')
    (first | exact (Ext.refl _).drew | exact Ext.trans (by assumption) hy)
    (first | (go_at_call 131; refine (minus_any _ _ _ _ _ (by omega) (by omega) (by omega) (by omega)).mono ?_; rintro e w7 ⟨rfl, hy⟩) | (go_at_call 215; refine (crossS_any _ _ _ _ _ (by omega) (by omega) (by omega) (by omega)).mono ?_; rintro e w7 ⟨rfl, hy⟩) | (go_at_call 259; refine (absS_any _ _ hT1 hT2).mono ?_; rintro e w7 ⟨rfl, hyy⟩; have hy := Ext.of_eq hyy; clear hyy) | (go_at_call 260; refine (rootOfS_any _ _ _ r0 r1 (by omega) M2).mono ?_; rintro e w7 ⟨rfl, hyy⟩; have hy := Ext.of_eq hyy; clear hyy))
  all_goals
    go_wp2
    go_ret
    exact ⟨ret_bool H.out, hx.trans (by assumption)⟩
def wdB (a b c d p q r : Int) : Bool := if (sgB a b c d = true ∧ ptB p q = true) ∧ 0 ≤ r ∧ r ≤ 10000 then wiB a b c d p q r else false
end Go.Proofs.YtmlojndkpnhalaaGreat.Win
