import Derived.Test.YtknelhceaoblhaaGreatMRoot
import Derived.Test.YtknelhceaoblhaaGreatMKit
import Derived.Deep.LoopGhost
import Derived.Deep.QuietTactic
import Derived.BigQuiet
namespace Go.Proofs.YtknelhceaoblhaaGreat.Wid
open Go.ChangeShapes Go.WideShapes Go.ChangeAt Go.RowKit
open Go.Proofs.YtknelhceaoblhaaGreat.Num Go.Proofs.YtknelhceaoblhaaGreat.Kit Go.Proofs.YtknelhceaoblhaaGreat.Pts Go.Proofs.YtknelhceaoblhaaGreat.Rt Go.Proofs.YtknelhceaoblhaaGreat.Root
set_option linter.unusedVariables false
set_option linter.unusedSimpArgs false
theorem nn_bd {x y A B : Int} (hx : 0 ≤ x) (hx2 : x ≤ A) (hy : 0 ≤ y) (hy2 : y ≤ B) : 0 ≤ x * y ∧ x * y ≤ A * B :=
  ⟨Int.mul_nonneg hx hy, Int.mul_le_mul hx2 hy2 hy (by omega)⟩
theorem wide_eq (u v p q : Int) : (u * 1048576 + v) * (p * 1048576 + q) = u * p * 1099511627776 + (u * q + v * p) * 1048576 + v * q := by grind
theorem wide_any (x y : Int) (w : World) (x0 : 0 ≤ x) (x1 : x ≤ 100000000000) (y0 : 0 ≤ y) (y1 : y ≤ 10000000000000) :
    Calls Tryz.prog 190 #[.int .i64 x, .int .i64 y] w fun e w' => e = .returned (.tuple #[.int .i64 (x * y / 1099511627776), .int .i64 (x * y % 1099511627776)]) ∧ w = w' := by
  have hu : 0 ≤ x / 1048576 ∧ x / 1048576 ≤ 95368 := by omega
  have hv : 0 ≤ x % 1048576 ∧ x % 1048576 ≤ 1048575 := by omega
  have hp : 0 ≤ y / 1048576 ∧ y / 1048576 ≤ 9536744 := by omega
  have hq : 0 ≤ y % 1048576 ∧ y % 1048576 ≤ 1048575 := by omega
  obtain ⟨a1, a2⟩ := nn_bd hv.1 hv.2 hq.1 hq.2
  obtain ⟨b1, b2⟩ := nn_bd hu.1 hu.2 hq.1 hq.2
  obtain ⟨c1, c2⟩ := nn_bd hv.1 hv.2 hp.1 hp.2
  obtain ⟨d1, d2⟩ := nn_bd hu.1 hu.2 hp.1 hp.2
  simp only [Int.reduceMul] at a2 b2 c2 d2
  have e := wide_eq (x / 1048576) (x % 1048576) (y / 1048576) (y % 1048576)
  rw [show x / 1048576 * 1048576 + x % 1048576 = x by omega, show y / 1048576 * 1048576 + y % 1048576 = y by omega] at e
  have H1 := Lib.hid (show x * y / 1099511627776 = x / 1048576 * (y / 1048576) + (x / 1048576 * (y % 1048576) + x % 1048576 * (y / 1048576) + x % 1048576 * (y % 1048576) / 1048576) / 1048576 by omega)
  have H2 := Lib.hid (show x * y % 1099511627776 = (x / 1048576 * (y % 1048576) + x % 1048576 * (y / 1048576) + x % 1048576 * (y % 1048576) / 1048576) % 1048576 * 1048576 + x % 1048576 * (y % 1048576) % 1048576 by omega)
  clear e
  go_enter Tryz.func190, Tryz.ntmps190
  go_wp2
  go_ret2
  exact ⟨ret_int2 H1.out H2.out, rfl⟩
theorem words_le (P Q : Int) : (decide (P / 1099511627776 < Q / 1099511627776) || (P / 1099511627776 == Q / 1099511627776 && decide (P % 1099511627776 ≤ Q % 1099511627776))) = decide (P ≤ Q) := by
  rw [Bool.eq_iff_iff]
  simp only [Bool.or_eq_true, Bool.and_eq_true, decide_eq_true_eq, beq_iff_eq]
  omega
theorem less_any (x d m : Int) (w : World) (x0 : 0 ≤ x) (x1 : x ≤ 100000000000) (d0 : 0 ≤ d) (d1 : d ≤ 10000) (m0 : 0 ≤ m) (m1 : m ≤ 8000000000000) :
    Calls Tryz.prog 169 #[.int .i64 x, .int .i64 d, .int .i64 m] w fun e w' => e = .returned (.bool (decide (x * x ≤ d * d * m))) ∧ w = w' := by
  have H := Lib.hid (words_le (x * x) (d * d * m))
  obtain ⟨e1, e2⟩ := nn_bd d0 d1 d0 d1
  simp only [Int.reduceMul] at e2
  have hX : 0 ≤ x * x := Int.mul_nonneg x0 x0
  have hY : 0 ≤ d * d * m := Int.mul_nonneg e1 m0
  obtain ⟨X2, hX2⟩ := nn_bd x0 x1 x0 x1
  obtain ⟨Y2, hY2⟩ := nn_bd e1 e2 m0 m1
  simp only [Int.reduceMul] at hX2 hY2
  clear X2 Y2
  go_enter Tryz.func169, Tryz.ntmps169
  go_wp2_with fail
  refine (wide_any _ _ _ x0 x1 x0 (by omega)).mono ?_
  rintro e w1 ⟨rfl, rfl⟩
  generalize hP : x * x = P at *
  have XP := Lib.hid hP
  clear hP
  go_wp2_with fail
  refine (wide_any _ _ _ e1 (by omega) m0 (by omega)).mono ?_
  rintro e w1 ⟨rfl, rfl⟩
  generalize hQ : d * d * m = Q at *
  have XQ := Lib.hid hQ
  clear hQ
  by_cases h1 : P / 1099511627776 < Q / 1099511627776
  · go_wp2
    go_ret
    exact ⟨ret_bool (by rw [XP.out, XQ.out, ← H.out, decide_eq_true h1]; rfl), rfl⟩
  · by_cases h2 : P / 1099511627776 = Q / 1099511627776
    · have h3 : (P / 1099511627776 == Q / 1099511627776) = true := beq_iff_eq.2 h2
      clear h2
      go_wp2
      go_ret
      exact ⟨ret_bool (by rw [XP.out, XQ.out, ← H.out, h3]; simp), rfl⟩
    · have h3 : (P / 1099511627776 == Q / 1099511627776) = false := beq_eq_false_iff_ne.2 h2
      clear h2
      go_wp2
      go_ret
      exact ⟨ret_bool (by rw [XP.out, XQ.out, ← H.out, h3]; simp), rfl⟩
def RelR (K : Int) (s t : Value) : Prop := ∃ lo hi : Int, 0 ≤ lo ∧ lo < hi ∧ hi ≤ 100000000000 ∧ lo * lo ≤ K ∧ K < hi * hi ∧ s = .int .i64 lo ∧ t = .int .i64 hi
theorem high_ok {d m : Int} (d0 : 0 ≤ d) (m0 : 0 ≤ m) : d * d * m < (d * (rt m + 1) + 1) * (d * (rt m + 1) + 1) := by
  have h1 := lt_next m
  have h2 : d * d * m ≤ d * d * ((rt m + 1) * (rt m + 1)) := Int.mul_le_mul_of_nonneg_left (by omega) (Int.mul_nonneg d0 d0)
  have h3 : 0 ≤ d * (rt m + 1) := Int.mul_nonneg d0 (by have := rt_nonneg m; omega)
  have e : d * d * ((rt m + 1) * (rt m + 1)) = d * (rt m + 1) * (d * (rt m + 1)) := by grind
  rw [e] at h2
  generalize d * (rt m + 1) = Z at *
  have e2 : (Z + 1) * (Z + 1) = Z * Z + 2 * Z + 1 := by grind
  omega
theorem rt_bd {m : Int} (m0 : 0 ≤ m) (m1 : m ≤ 8000000000000) : 0 ≤ rt m ∧ rt m ≤ 2828428 := by
  refine ⟨rt_nonneg m, ?_⟩
  rcases Int.lt_or_le 2828428 (rt m) with h | h
  · have h1 := rt_sq m0
    have h2 := sq_le (a := 2828429) (b := rt m) (by omega) (by omega)
    simp only [Int.reduceMul] at h2
    omega
  · exact h
set_option maxHeartbeats 400000 in
theorem rootOfS_any (d m : Int) (w : World) (d0 : 0 ≤ d) (d1 : d ≤ 10000) (m0 : 0 ≤ m) (m1 : m ≤ 8000000000000) :
    Calls Tryz.prog 141 #[.int .i64 d, .int .i64 m] w fun e w' => e = .returned (.int .i64 (rt (d * d * m))) ∧ w = w' := by
  obtain ⟨r0, r1⟩ := rt_bd m0 m1
  have hh := Lib.hid (high_ok (m := m) d0 m0)
  obtain ⟨z0, z1⟩ := nn_bd d0 d1 (show 0 ≤ rt m + 1 by omega) (show rt m + 1 ≤ 2828429 by omega)
  simp only [Int.reduceMul] at z1
  have hK : 0 ≤ d * d * m := Int.mul_nonneg (Int.mul_nonneg d0 d0) m0
  go_enter Tryz.func141, Tryz.ntmps141
  go_wp2_with fail
  refine (root_any _ _ m0 (by omega)).mono ?_
  rintro e w1 ⟨rfl, rfl⟩
  go_wp2_with fail
  go_loop [5, 6] (fun s t => RelR (d * d * m) s t) (fun s t => (intOf t - intOf s).toNat)
  case atStart => exact ⟨0, d * (rt m + 1) + 1, by omega, by omega, by omega, by simpa using hK, hh.out, rfl, rfl⟩
  case round =>
    clear r0 r1 hh z0 z1
    obtain ⟨lo, hi, a1, a2, a3, a4, a5, rfl, rfl⟩ := hrel
    have A4 := Lib.hid a4
    have A5 := Lib.hid a5
    have HK := Lib.hid hK
    clear a4 a5 hK
    by_cases hlt : lo + 1 < hi
    · by_cases hs : (lo + hi) / 2 * ((lo + hi) / 2) ≤ d * d * m
      · have HS := Lib.hid hs
        have hs1 : decide ((lo + hi) / 2 * ((lo + hi) / 2) ≤ d * d * m) = true := decide_eq_true hs
        clear hs
        go_wp2_with (go_at_call 169; refine (less_any _ _ _ _ (by omega) (by omega) d0 d1 m0 m1).mono ?_; rintro e w1 ⟨rfl, rfl⟩; rw [hs1])
        go_round
        case rel => exact ⟨(lo + hi) / 2, hi, by omega, by omega, a3, HS.out, A5.out, rfl, rfl⟩
        case measure => simp [intOf]; omega
      · have HS := Lib.hid hs
        have hs1 : decide ((lo + hi) / 2 * ((lo + hi) / 2) ≤ d * d * m) = false := decide_eq_false hs
        clear hs
        go_wp2_with (go_at_call 169; refine (less_any _ _ _ _ (by omega) (by omega) d0 d1 m0 m1).mono ?_; rintro e w1 ⟨rfl, rfl⟩; rw [hs1])
        go_round
        case rel => exact ⟨lo, (lo + hi) / 2, by omega, by omega, by omega, A4.out, by have := HS.out; omega, rfl, rfl⟩
        case measure => simp [intOf]; omega
    · have H := Lib.hid (rt_eq (n := d * d * m) a1 A4.out (by have := A5.out; rw [show hi = lo + 1 by omega] at this; exact this))
      go_wp2
      go_ret
      exact ⟨ret_int H.out, rfl⟩
end Go.Proofs.YtknelhceaoblhaaGreat.Wid
