/- Contracts of CompareRatios (impl, spec): both compare the cross products. -/
import Derived.Test.YtccggjhmnbebbaaCmp
import Derived.Deep.QuietTactic
import Derived.BigQuiet
namespace Go.Proofs.Ytccggjhmnbebbaa.Cmp
open Go.ChangeShapes Go.WideShapes Go.ChangeAt Go.RowKit
open Go.Proofs.Ytccggjhmnbebbaa.Num Go.Proofs.Ytccggjhmnbebbaa.Kit Go.Proofs.Ytccggjhmnbebbaa.Pts
set_option linter.unusedVariables false
set_option linter.unusedSimpArgs false

theorem flo_bd {a b : Int} (hb : 1 ≤ b) : 0 ≤ a - flo a b * b ∧ a - flo a b * b < b := by
  have h : (a.tmod b).natAbs = a.natAbs % b.natAbs := Int.natAbs_tmod a b
  have h2 := Nat.mod_lt a.natAbs (show 0 < b.natAbs by omega)
  have h3 := Int.mul_tdiv_add_tmod a b
  unfold flo
  by_cases hm : a.tmod b < 0
  · rw [if_pos hm, Int.sub_mul, Int.mul_comm (a.tdiv b) b]; omega
  · rw [if_neg hm, Int.mul_comm (a.tdiv b) b]; omega
theorem flo_abs {a b : Int} (hb : 1 ≤ b) (M : Int) (h1 : -M ≤ a) (h2 : a ≤ M) : -M - 1 ≤ flo a b ∧ flo a b ≤ M := by
  obtain ⟨g1, g2⟩ := tdiv_bd hb M h1 h2
  unfold flo; by_cases hm : a.tmod b < 0
  · rw [if_pos hm]; omega
  · rw [if_neg hm]; omega

theorem cmpZ_anti (x y : Int) : cmpZ y x = -cmpZ x y := by
  rcases Int.lt_trichotomy x y with h | h | h
  · rw [cmpZ_lt h, cmpZ_gt h]; rfl
  · rw [cmpZ_eq h, cmpZ_eq h.symm]; rfl
  · rw [cmpZ_gt h, cmpZ_lt h]
theorem cmpZ_shift {x y x' y' : Int} (h : x - y = x' - y') : cmpZ x y = cmpZ x' y' := by
  rcases Int.lt_trichotomy x y with g | g | g
  · rw [cmpZ_lt g, cmpZ_lt (by omega)]
  · rw [cmpZ_eq g, cmpZ_eq (by omega)]
  · rw [cmpZ_gt g, cmpZ_gt (by omega)]
theorem cross_lt {a b c d p q : Int} (hb : 1 ≤ b) (hd : 1 ≤ d) (r1 : a - p * b < b) (s0 : 0 ≤ c - q * d) (h : p < q) : a * d < c * b := by
  have e1 : (p + 1) * b = p * b + b := by rw [Int.add_mul, Int.one_mul]
  have h1 : a * d < (p + 1) * b * d := Int.mul_lt_mul_of_pos_right (by omega) (by omega)
  have h2 : q * d * b ≤ c * b := Int.mul_le_mul_of_nonneg_right (by omega) (by omega)
  have h4 : 0 ≤ b * d := Int.mul_nonneg (by omega) (by omega)
  have h3 : (p + 1) * (b * d) ≤ q * (b * d) := Int.mul_le_mul_of_nonneg_right (by omega) h4
  have e2 : (p + 1) * b * d = (p + 1) * (b * d) := Int.mul_assoc _ _ _
  have e3 : q * d * b = q * (b * d) := by rw [Int.mul_assoc, Int.mul_comm d b]
  omega
theorem cross_same (a b c d p : Int) : (a - p * b) * d - (c - p * d) * b = a * d - c * b := by grind
theorem cross_zero {r s b d : Int} (hr : 0 ≤ r) (hs : 0 ≤ s) (hb : 1 ≤ b) (hd : 1 ≤ d) (h : r = 0 ∨ s = 0) : cmpZ (r * d) (s * b) = sgn (r - s) := by
  rcases h with h | h
  · subst h
    rw [Int.zero_mul]
    rcases Int.lt_or_le 0 s with g | g
    · rw [cmpZ_lt (Int.mul_pos g (by omega))]; unfold sgn; rw [if_pos (by omega)]
    · rw [show s = 0 by omega, Int.zero_mul]; rfl
  · subst h
    rw [Int.zero_mul]
    rcases Int.lt_or_le 0 r with g | g
    · rw [cmpZ_gt (Int.mul_pos g (by omega))]; unfold sgn; rw [if_neg (by omega), if_pos (by omega)]
    · rw [show r = 0 by omega, Int.zero_mul]; rfl
theorem cross_flip (r b s d : Int) : cmpZ (b * s) (d * r) = -cmpZ (r * d) (s * b) := by
  rw [← cmpZ_anti, Int.mul_comm b s, Int.mul_comm d r]
theorem sgn_neg1 {n : Int} (h : n < 0) : sgn n = -1 := if_pos h
theorem sgn_pos1 {n : Int} (h : 0 < n) : sgn n = 1 := by unfold sgn; rw [if_neg (by omega), if_pos h]
theorem sgn_bd (n : Int) : -1 ≤ sgn n ∧ sgn n ≤ 1 := by
  unfold sgn; rcases Int.lt_trichotomy n 0 with h | h | h
  · rw [if_pos h]; decide
  · subst h; decide
  · rw [if_neg (by omega : ¬ n < 0), if_pos h]; decide

/-- What the loop of l02Compare keeps. -/
def RelC (T : Int) (s5 s6 s7 s8 s9 : Value) : Prop := ∃ a b c d g : Int, -100000000000000 ≤ a ∧ a ≤ 100000000000000 ∧ 1 ≤ b ∧ b ≤ 100000000000000 ∧ -100000000000000 ≤ c ∧ c ≤ 100000000000000 ∧ 1 ≤ d ∧ d ≤ 100000000000000 ∧
  (g = 1 ∨ g = -1) ∧ T = g * cmpZ (a * d) (c * b) ∧ s5 = .int .i64 a ∧ s6 = .int .i64 b ∧ s7 = .int .i64 c ∧ s8 = .int .i64 d ∧ s9 = .int .i64 g

set_option maxHeartbeats 2000000 in
theorem compareS_any (x y u v : Int) (w : World) (hx1 : -100000000000000 ≤ x) (hx2 : x ≤ 100000000000000) (hy1 : 1 ≤ y) (hy2 : y ≤ 100000000000000) (hu1 : -100000000000000 ≤ u) (hu2 : u ≤ 100000000000000) (hv1 : 1 ≤ v) (hv2 : v ≤ 100000000000000) :
    Calls Try.prog 69 #[Pt x y, Pt u v] w fun e w' => e = .returned (.int .i64 (cmpZ (x * v) (u * y))) ∧ Ext w w' := by
  go_enter Try.func69, Try.ntmps69
  go_wp2_with fail
  go_quiet (fail)
  go_wp2_with fail
  go_loop [5, 6, 7, 8, 9] (fun s5 s6 s7 s8 s9 => RelC (cmpZ (x * v) (u * y)) s5 s6 s7 s8 s9) (fun s5 s6 s7 s8 s9 => (intOf s6).toNat)
  case atStart => exact ⟨x, y, u, v, 1, hx1, hx2, hy1, hy2, hu1, hu2, hv1, hv2, .inl rfl, by rw [Int.one_mul], rfl, rfl, rfl, rfl, rfl⟩
  case round =>
    clear hx1 hx2 hy1 hy2 hu1 hu2 hv1 hv2
    obtain ⟨a, b, c, d, g, a1, a2, b1, b2, c1, c2, d1, d2, hg, hT, rfl, rfl, rfl, rfl, rfl⟩ := hrel
    obtain ⟨r0, r1⟩ := flo_bd (a := a) b1
    obtain ⟨s0, s1⟩ := flo_bd (a := c) d1
    obtain ⟨p1, p2⟩ := flo_abs (a := a) b1 100000000000000 a1 a2
    obtain ⟨q1, q2⟩ := flo_abs (a := c) d1 100000000000000 c1 c2
    have g1 : -1 ≤ g ∧ g ≤ 1 := by omega
    have P1 : -300000000000000 ≤ flo a b * b ∧ flo a b * b ≤ 300000000000000 := by omega
    have Q1 : -300000000000000 ≤ flo c d * d ∧ flo c d * d ≤ 300000000000000 := by omega
    obtain ⟨P1, P2⟩ := P1
    obtain ⟨Q1, Q2⟩ := Q1
    obtain ⟨G1, G2⟩ := g1
    by_cases hpq : flo a b = flo c d
    · have hpq1 : (flo a b == flo c d) = true := beq_iff_eq.2 hpq
      have hsame : cmpZ (a * d) (c * b) = cmpZ ((a - flo a b * b) * d) ((c - flo c d * d) * b) := by
        rw [← hpq]; exact (cmpZ_shift (cross_same a b c d (flo a b))).symm
      rw [hsame] at hT
      clear hpq hsame
      by_cases hz : a - flo a b * b = 0 ∨ c - flo c d * d = 0
      · rw [cross_zero r0 s0 b1 d1 hz] at hT
        have H := Lib.hid hT
        obtain ⟨e1, e2⟩ := mul_bd 1 1 ⟨G1, G2⟩ (sgn_bd (a - flo a b * b - (c - flo c d * d)))
        simp only [Int.reduceMul, Int.reduceNeg] at e1 e2
        clear hT hg
        by_cases hz1 : a - flo a b * b = 0
        · have z1 : (a - flo a b * b == 0) = true := beq_iff_eq.2 hz1
          clear hz hz1
          go_wp2_with (first | (go_at_call 71; refine (floor_any _ _ _ (by omega) (by omega) (by omega)).mono ?_; rintro e w1 ⟨rfl, rfl⟩) | (go_at_call 68; refine (sign_any _ _).mono ?_; rintro e w1 ⟨rfl, rfl⟩))
          go_ret
          exact ⟨ret_int H.out, (((Ext.refl w).alloc _).alloc _).drewN _⟩
        · have z1 : (a - flo a b * b == 0) = false := beq_eq_false_iff_ne.2 hz1
          have z2 : (c - flo c d * d == 0) = true := beq_iff_eq.2 (hz.resolve_left hz1)
          clear hz hz1
          go_wp2_with (first | (go_at_call 71; refine (floor_any _ _ _ (by omega) (by omega) (by omega)).mono ?_; rintro e w1 ⟨rfl, rfl⟩) | (go_at_call 68; refine (sign_any _ _).mono ?_; rintro e w1 ⟨rfl, rfl⟩))
          go_ret
          exact ⟨ret_int H.out, (((Ext.refl w).alloc _).alloc _).drewN _⟩
      · have z1 : (a - flo a b * b == 0) = false := beq_eq_false_iff_ne.2 (fun h => hz (.inl h))
        have z2 : (c - flo c d * d == 0) = false := beq_eq_false_iff_ne.2 (fun h => hz (.inr h))
        have n1 : 1 ≤ a - flo a b * b := by omega
        have n2 : 1 ≤ c - flo c d * d := by omega
        have H := Lib.hid (show cmpZ (x * v) (u * y) = -g * cmpZ (b * (c - flo c d * d)) (d * (a - flo a b * b)) by rw [hT, cross_flip (a - flo a b * b) b (c - flo c d * d) d, Int.neg_mul_neg])
        have HG := Lib.hid (show -g = 1 ∨ -g = -1 by omega)
        clear hT hz hg
        go_wp2_with (first | (go_at_call 71; refine (floor_any _ _ _ (by omega) (by omega) (by omega)).mono ?_; rintro e w1 ⟨rfl, rfl⟩) | (go_at_call 68; refine (sign_any _ _).mono ?_; rintro e w1 ⟨rfl, rfl⟩))
        go_round
        case rel => exact ⟨b, a - flo a b * b, d, c - flo c d * d, -g, by omega, by omega, by omega, by omega, by omega, by omega, by omega, by omega, HG.out, H.out, rfl, rfl, rfl, rfl, rfl⟩
        case measure => simp [intOf]; omega
    · have hpq1 : (flo a b == flo c d) = false := beq_eq_false_iff_ne.2 hpq
      have hv : cmpZ (a * d) (c * b) = sgn (flo a b - flo c d) := by
        rcases Int.lt_or_le (flo a b) (flo c d) with h | h
        · rw [cmpZ_lt (cross_lt b1 d1 r1 s0 h), sgn_neg1 (by omega)]
        · rw [cmpZ_gt (cross_lt d1 b1 s1 r0 (by omega)), sgn_pos1 (by omega)]
      rw [hv] at hT
      have H := Lib.hid hT
      obtain ⟨e1, e2⟩ := mul_bd 1 1 ⟨G1, G2⟩ (sgn_bd (flo a b - flo c d))
      simp only [Int.reduceMul, Int.reduceNeg] at e1 e2
      clear hT hpq hv hg
      go_wp2_with (first | (go_at_call 71; refine (floor_any _ _ _ (by omega) (by omega) (by omega)).mono ?_; rintro e w1 ⟨rfl, rfl⟩) | (go_at_call 68; refine (sign_any _ _).mono ?_; rintro e w1 ⟨rfl, rfl⟩))
      go_ret
      exact ⟨ret_int H.out, (((Ext.refl w).alloc _).alloc _).drewN _⟩

/-- Is a ratio within lo .. 1 (lo: 0 or -1)? -/
def raB (n d lo : Int) : Bool := decide (1 ≤ d) && (decide (d ≤ 100000000000000) && (decide (lo * d ≤ n) && decide (n ≤ d)))
theorem raB_yes {n d lo : Int} (h : raB n d lo = true) : 1 ≤ d ∧ d ≤ 100000000000000 ∧ lo * d ≤ n ∧ n ≤ d := by
  unfold raB at h; simp only [Bool.and_eq_true, decide_eq_true_eq] at h; exact ⟨h.1, h.2.1, h.2.2.1, h.2.2.2⟩

theorem isWithin0_any (n d : Int) (w : World) : Calls Try.prog 54 #[Pt n d, .int .i64 0] w fun e w' => e = .returned (.bool (raB n d 0)) ∧ Ext w w' := by
  by_cases h1 : 1 ≤ d
  · by_cases h2 : d ≤ 100000000000000
    · have H := Lib.hid (show raB n d 0 = (decide (0 ≤ n) && decide (n ≤ d)) by unfold raB; rw [decide_eq_true h1, decide_eq_true h2, show 0 * d = 0 by omega]; rfl)
      by_cases h3 : 0 ≤ n
      · rw [decide_eq_true h3] at H
        go_enter Try.func54, Try.ntmps54
        go_wp2
        all_goals
          go_ret
          exact ⟨ret_bool (by first | exact H.out | (rw [H.out]; simp; omega) | (rw [H.out]; simp)), (by repeat (first | exact Ext.refl _ | assumption | apply Ext.alloc | apply Ext.drew | (refine Ext.trans ?_ (by assumption)) | (refine Ext.setNew ?_ (by simp <;> omega) _)))⟩
      · rw [decide_eq_false h3] at H
        go_enter Try.func54, Try.ntmps54
        go_wp2
        all_goals
          go_ret
          exact ⟨ret_bool (by first | exact H.out | (rw [H.out]; simp; omega) | (rw [H.out]; simp)), (by repeat (first | exact Ext.refl _ | assumption | apply Ext.alloc | apply Ext.drew | (refine Ext.trans ?_ (by assumption)) | (refine Ext.setNew ?_ (by simp <;> omega) _)))⟩
    · have H := Lib.hid (show raB n d 0 = false by unfold raB; rw [decide_eq_true h1, decide_eq_false h2]; rfl)
      go_enter Try.func54, Try.ntmps54
      go_wp2
      go_ret
      exact ⟨ret_bool H.out, (by repeat (first | exact Ext.refl _ | assumption | apply Ext.alloc | apply Ext.drew | (refine Ext.trans ?_ (by assumption)) | (refine Ext.setNew ?_ (by simp <;> omega) _)))⟩
  · have H := Lib.hid (show raB n d 0 = false by unfold raB; rw [decide_eq_false h1]; rfl)
    go_enter Try.func54, Try.ntmps54
    go_wp2
    go_ret
    exact ⟨ret_bool H.out, (by repeat (first | exact Ext.refl _ | assumption | apply Ext.alloc | apply Ext.drew | (refine Ext.trans ?_ (by assumption)) | (refine Ext.setNew ?_ (by simp <;> omega) _)))⟩

theorem isWithinm_any (n d : Int) (w : World) : Calls Try.prog 54 #[Pt n d, .int .i64 (-1)] w fun e w' => e = .returned (.bool (raB n d (-1))) ∧ Ext w w' := by
  by_cases h1 : 1 ≤ d
  · by_cases h2 : d ≤ 100000000000000
    · have H := Lib.hid (show raB n d (-1) = (decide (-d ≤ n) && decide (n ≤ d)) by unfold raB; rw [decide_eq_true h1, decide_eq_true h2, show (-1) * d = -d by omega]; rfl)
      by_cases h3 : -d ≤ n
      · rw [decide_eq_true h3] at H
        go_enter Try.func54, Try.ntmps54
        go_wp2
        all_goals
          go_ret
          exact ⟨ret_bool (by first | exact H.out | (rw [H.out]; simp; omega) | (rw [H.out]; simp)), (by repeat (first | exact Ext.refl _ | assumption | apply Ext.alloc | apply Ext.drew | (refine Ext.trans ?_ (by assumption)) | (refine Ext.setNew ?_ (by simp <;> omega) _)))⟩
      · rw [decide_eq_false h3] at H
        go_enter Try.func54, Try.ntmps54
        go_wp2
        all_goals
          go_ret
          exact ⟨ret_bool (by first | exact H.out | (rw [H.out]; simp; omega) | (rw [H.out]; simp)), (by repeat (first | exact Ext.refl _ | assumption | apply Ext.alloc | apply Ext.drew | (refine Ext.trans ?_ (by assumption)) | (refine Ext.setNew ?_ (by simp <;> omega) _)))⟩
    · have H := Lib.hid (show raB n d (-1) = false by unfold raB; rw [decide_eq_true h1, decide_eq_false h2]; rfl)
      go_enter Try.func54, Try.ntmps54
      go_wp2
      go_ret
      exact ⟨ret_bool H.out, (by repeat (first | exact Ext.refl _ | assumption | apply Ext.alloc | apply Ext.drew | (refine Ext.trans ?_ (by assumption)) | (refine Ext.setNew ?_ (by simp <;> omega) _)))⟩
  · have H := Lib.hid (show raB n d (-1) = false by unfold raB; rw [decide_eq_false h1]; rfl)
    go_enter Try.func54, Try.ntmps54
    go_wp2
    go_ret
    exact ⟨ret_bool H.out, (by repeat (first | exact Ext.refl _ | assumption | apply Ext.alloc | apply Ext.drew | (refine Ext.trans ?_ (by assumption)) | (refine Ext.setNew ?_ (by simp <;> omega) _)))⟩

end Go.Proofs.Ytccggjhmnbebbaa.Cmp
