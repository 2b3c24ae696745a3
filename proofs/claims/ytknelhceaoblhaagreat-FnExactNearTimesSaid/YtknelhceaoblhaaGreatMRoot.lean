import Derived.Test.YtknelhceaoblhaaGreatMPts
import Derived.Test.YtknelhceaoblhaaGreatRt
import Derived.Deep.LoopGhost
namespace Go.Proofs.YtknelhceaoblhaaGreat.Root
open Go.ChangeShapes Go.WideShapes Go.ChangeAt Go.RowKit
open Go.Proofs.YtknelhceaoblhaaGreat.Num Go.Proofs.YtknelhceaoblhaaGreat.Rt
set_option linter.unusedVariables false
theorem sq_bd {m : Int} (h0 : 0 ≤ m) (h1 : m ≤ 1000000001) : 0 ≤ m * m ∧ m * m ≤ 1000000002000000001 := by
  have a := sq_le (a := 0) (b := m) (by omega) h0
  have b := sq_le (a := m) (b := 1000000001) h0 h1
  simp only [Int.reduceMul] at a b
  omega
def RelS (n : Int) (s t : Value) : Prop := ∃ lo hi : Int, 0 ≤ lo ∧ lo < hi ∧ hi ≤ 1000000001 ∧ lo * lo ≤ n ∧ n < hi * hi ∧ s = .int .i64 lo ∧ t = .int .i64 hi
set_option maxHeartbeats 400000 in
theorem root_any (n : Int) (w : World) (h1 : 0 ≤ n) (h2 : n ≤ 1000000000000000000) : Calls Tryz.prog 167 #[.int .i64 n] w fun e w' => e = .returned (.int .i64 (rt n)) ∧ w = w' := by
  go_enter Tryz.func167, Tryz.ntmps167
  go_wp2
  go_loop [3, 4] (fun s t => RelS n s t) (fun s t => (intOf t - intOf s).toNat)
  case atStart => exact ⟨0, 1000000001, by omega, by omega, by omega, by simpa using h1, by simp; omega, rfl, rfl⟩
  case round =>
    obtain ⟨lo, hi, a1, a2, a3, a4, a5, rfl, rfl⟩ := hrel
    have A4 := Lib.hid a4
    have A5 := Lib.hid a5
    clear a4 a5
    by_cases hlt : lo + 1 < hi
    · have hm := sq_bd (m := (lo + hi) / 2) (by omega) (by omega)
      by_cases hs : (lo + hi) / 2 * ((lo + hi) / 2) ≤ n
      · go_wp2
        go_round
        case rel => exact ⟨(lo + hi) / 2, hi, by omega, by omega, a3, hs, A5.out, rfl, rfl⟩
        case measure => simp [intOf]; omega
      · go_wp2
        go_round
        case rel => exact ⟨lo, (lo + hi) / 2, by omega, by omega, by omega, A4.out, by omega, rfl, rfl⟩
        case measure => simp [intOf]; omega
    · have H := Lib.hid (rt_eq (n := n) a1 A4.out (by have := A5.out; rw [show hi = lo + 1 by omega] at this; exact this))
      go_wp2
      go_ret
      exact ⟨ret_int H.out, rfl⟩
def RelI (n : Int) (s t : Value) : Prop := ∃ lo hi : Int, 0 ≤ lo ∧ lo ≤ hi ∧ hi ≤ 1000000000 ∧ lo * lo ≤ n ∧ n < (hi + 1) * (hi + 1) ∧ s = .int .i64 lo ∧ t = .int .i64 hi
set_option maxHeartbeats 400000 in
theorem rootOf_in (n : Int) (w : World) (h1 : 0 ≤ n) (h2 : n ≤ 1000000000000000000) : Calls Tryz.prog 217 #[.int .i64 n] w fun e w' => e = .returned (.tuple #[.int .i64 (rt n), .int .i64 0]) ∧ w = w' := by
  have d1 : decide (n < 0) = false := decide_eq_false (by omega)
  have d2 : decide (1000000000000000000 < n) = false := decide_eq_false (by omega)
  go_enter Tryz.func217, Tryz.ntmps217
  go_wp2
  go_step3
  go_wp2
  go_step3
  go_wp2
  go_loop [4, 5] (fun s t => RelI n s t) (fun s t => (intOf t - intOf s).toNat)
  case atStart => exact ⟨0, 1000000000, by omega, by omega, by omega, by simpa using h1, by simp; omega, rfl, rfl⟩
  case round =>
    obtain ⟨lo, hi, a1, a2, a3, a4, a5, rfl, rfl⟩ := hrel
    have A4 := Lib.hid a4
    have A5 := Lib.hid a5
    clear a4 a5
    by_cases hlt : lo < hi
    · have hm := sq_bd (m := (lo + hi + 1) / 2) (by omega) (by omega)
      by_cases he : (lo + hi + 1) / 2 * ((lo + hi + 1) / 2) = n
      · have he1 : ((lo + hi + 1) / 2 * ((lo + hi + 1) / 2) == n) = true := beq_iff_eq.2 he
        have H := Lib.hid (rt_eq (n := n) (r := (lo + hi + 1) / 2) (by omega) (by omega) (by have := Int.add_mul ((lo + hi + 1) / 2) 1 ((lo + hi + 1) / 2 + 1); rw [this, Int.mul_add]; omega))
        clear he
        go_wp2
        go_ret2
        exact ⟨ret_int2 H.out rfl, rfl⟩
      · have he1 : ((lo + hi + 1) / 2 * ((lo + hi + 1) / 2) == n) = false := beq_eq_false_iff_ne.2 he
        by_cases hs : (lo + hi + 1) / 2 * ((lo + hi + 1) / 2) < n
        · go_wp2
          go_round
          case rel => exact ⟨(lo + hi + 1) / 2, hi, by omega, by omega, a3, by omega, A5.out, rfl, rfl⟩
          case measure => simp [intOf]; omega
        · go_wp2
          go_round
          case rel => exact ⟨lo, (lo + hi + 1) / 2 - 1, by omega, by omega, by omega, A4.out, by rw [Int.sub_add_cancel]; omega, rfl, rfl⟩
          case measure => simp [intOf]; omega
    · have H := Lib.hid (rt_eq (n := n) a1 A4.out (by have := A5.out; rw [show hi = lo by omega] at this; exact this))
      go_wp2
      go_ret2
      exact ⟨ret_int2 H.out rfl, rfl⟩
end Go.Proofs.YtknelhceaoblhaaGreat.Root
namespace Go.Proofs.YtknelhceaoblhaaGreat.Lth
open Go.ChangeShapes Go.WideShapes Go.ChangeAt Go.RowKit
open Go.Proofs.YtknelhceaoblhaaGreat.Num Go.Proofs.YtknelhceaoblhaaGreat.Kit Go.Proofs.YtknelhceaoblhaaGreat.Pts Go.Proofs.YtknelhceaoblhaaGreat.Root Go.Proofs.YtknelhceaoblhaaGreat.Rt
set_option linter.unusedVariables false
set_option linter.unusedSimpArgs false
theorem sq_nn (x : Int) : 0 ≤ x * x := by
  rcases Int.le_total 0 x with h | h
  · exact Int.mul_nonneg h h
  · have q := Int.mul_nonneg (show 0 ≤ -x by omega) (show 0 ≤ -x by omega)
    rwa [Int.neg_mul_neg] at q
theorem sq_pos {x : Int} (h : x ≠ 0) : 1 ≤ x * x := by
  have h0 := sq_nn x
  have h1 : x * x ≠ 0 := fun e => by rcases Int.mul_eq_zero.1 e with e | e <;> exact h e
  omega
theorem sqs_bd {x y : Int} (hx : -2000000 ≤ x ∧ x ≤ 2000000) (hy : -2000000 ≤ y ∧ y ≤ 2000000) : 0 ≤ x * x + y * y ∧ x * x + y * y ≤ 8000000000000 := by
  obtain ⟨_, a⟩ := mul_bd 2000000 2000000 hx hx
  obtain ⟨_, b⟩ := mul_bd 2000000 2000000 hy hy
  have c := sq_nn x
  have d := sq_nn y
  simp only [Int.reduceMul] at a b
  omega
def ln2 (x y : Int) : Int := rt (x * x + y * y)
theorem rt_small {n : Int} (h0 : 0 ≤ n) (h : n ≤ 8000000000000) : 0 ≤ rt n ∧ rt n ≤ 8000000000000 := by
  refine ⟨rt_nonneg n, ?_⟩
  have := rt_sq h0
  have := rt_nonneg n
  by_cases g : rt n = 0
  · omega
  · have h1 := Int.mul_le_mul_of_nonneg_left (show 1 ≤ rt n by omega) (rt_nonneg n)
    rw [Int.mul_one] at h1
    omega
theorem ln2_pos {x y : Int} (hx : -2000000 ≤ x ∧ x ≤ 2000000) (hy : -2000000 ≤ y ∧ y ≤ 2000000) (h : ¬ (x = 0 ∧ y = 0)) : 1 ≤ ln2 x y ∧ ln2 x y ≤ 8000000000000 := by
  obtain ⟨b0, b1⟩ := sqs_bd hx hy
  refine ⟨rt_max (by omega) ?_, (rt_small b0 b1).2⟩
  by_cases hx0 : x = 0
  · have := sq_pos (show y ≠ 0 from fun e => h ⟨hx0, e⟩); have := sq_nn x; omega
  · have := sq_pos hx0; have := sq_nn y; omega
theorem length_any (x y : Int) (w : World) (hx : -2000000 ≤ x ∧ x ≤ 2000000) (hy : -2000000 ≤ y ∧ y ≤ 2000000) :
    Calls Tryz.prog 200 #[Pt x y] w fun e w' => e = .returned (.int .i64 (ln2 x y)) ∧ Ext w w' := by
  obtain ⟨b0, b1⟩ := sqs_bd hx hy
  unfold ln2
  have PS := Lib.hid (fun w => squareLength_any x y w hx hy)
  obtain ⟨Q, hQ⟩ : ∃ Q, Q = x * x + y * y := ⟨_, rfl⟩
  rw [← hQ] at PS b0 b1 ⊢
  clear hQ
  have PR := Lib.hid (fun w => rootOf_in Q w b0 (by omega))
  obtain ⟨R, hR⟩ : ∃ R, R = rt Q := ⟨_, rfl⟩
  rw [← hR] at PR ⊢
  clear hR
  go_enter Tryz.func200, Tryz.ntmps200
  go_wp2_with fail
  refine (PS.out _).mono ?_
  rintro e w1 ⟨rfl, hx1⟩
  go_wp2_with fail
  refine (PR.out _).mono ?_
  rintro e w2 ⟨rfl, rfl⟩
  go_wp2
  go_ret
  exact ⟨rfl, (by repeat (first | exact Ext.refl _ | assumption | apply Ext.alloc | apply Ext.drew | (refine Ext.trans ?_ (by assumption)) | (refine Ext.setNew ?_ (by simp <;> omega) _)))⟩
end Go.Proofs.YtknelhceaoblhaaGreat.Lth
