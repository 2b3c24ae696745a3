/- Contracts of RootOf (impl, spec): both answer the integer root. -/
import Derived.Test.YtlheppblioglpaaGreatPts
import Derived.Test.YtlheppblioglpaaGreatRt
import Derived.Deep.LoopGhost
namespace Go.Proofs.YtlheppblioglpaaGreat.Root
open Go.ChangeShapes Go.WideShapes Go.ChangeAt Go.RowKit
open Go.Proofs.YtlheppblioglpaaGreat.Num Go.Proofs.YtlheppblioglpaaGreat.Rt
set_option linter.unusedVariables false

theorem sq_bd {m : Int} (h0 : 0 ≤ m) (h1 : m ≤ 1000000001) : 0 ≤ m * m ∧ m * m ≤ 1000000002000000001 := by
  have a := sq_le (a := 0) (b := m) (by omega) h0
  have b := sq_le (a := m) (b := 1000000001) h0 h1
  simp only [Int.reduceMul] at a b
  omega

/-- What the loop of l01Root keeps. -/
def RelS (n : Int) (s t : Value) : Prop := ∃ lo hi : Int, 0 ≤ lo ∧ lo < hi ∧ hi ≤ 1000000001 ∧ lo * lo ≤ n ∧ n < hi * hi ∧ s = .int .i64 lo ∧ t = .int .i64 hi

set_option maxHeartbeats 400000 in
theorem root_any (n : Int) (w : World) (h1 : 0 ≤ n) (h2 : n ≤ 1000000000000000000) : Calls Tryz.prog 119 #[.int .i64 n] w fun e w' => e = .returned (.int .i64 (rt n)) ∧ w = w' := by
  go_enter Tryz.func119, Tryz.ntmps119
  go_wp2
  go_loop [3, 4] (fun s t => RelS n s t) (fun s t => (intOf t - intOf s).toNat)
  case atStart => exact ⟨0, 1000000001, by omega, by omega, by omega, by simpa using h1, by simp; omega, rfl, rfl⟩
  case round =>
    obtain ⟨lo, hi, a1, a2, a3, a4, a5, rfl, rfl⟩ := hrel
    have A4 := Lib.hid a4
    have A5 := Lib.hid a5
    clear a4 a5
    by_cases hlt : lo + 1 < hi
    · have hm := sq_bd (m := (lo + hi) / 2) (by omega) (by omega)
      by_cases hs : (lo + hi) / 2 * ((lo + hi) / 2) ≤ n
      · go_wp2
        go_round
        case rel => exact ⟨(lo + hi) / 2, hi, by omega, by omega, a3, hs, A5.out, rfl, rfl⟩
        case measure => simp [intOf]; omega
      · go_wp2
        go_round
        case rel => exact ⟨lo, (lo + hi) / 2, by omega, by omega, by omega, A4.out, by omega, rfl, rfl⟩
        case measure => simp [intOf]; omega
    · have H := Lib.hid (rt_eq (n := n) a1 A4.out (by have := A5.out; rw [show hi = lo + 1 by omega] at this; exact this))
      go_wp2
      go_ret
      exact ⟨ret_int H.out, rfl⟩

/-- What RootOf's loop keeps. -/
def RelI (n : Int) (s t : Value) : Prop := ∃ lo hi : Int, 0 ≤ lo ∧ lo ≤ hi ∧ hi ≤ 1000000000 ∧ lo * lo ≤ n ∧ n < (hi + 1) * (hi + 1) ∧ s = .int .i64 lo ∧ t = .int .i64 hi

def roQ (n : Int) : Int := if 0 ≤ n ∧ n ≤ 1000000000000000000 then rt n else 0
def roC (n : Int) : Int := if 0 ≤ n ∧ n ≤ 1000000000000000000 then 0 else 2

set_option maxHeartbeats 400000 in
theorem rootOf_in (n : Int) (w : World) (h1 : 0 ≤ n) (h2 : n ≤ 1000000000000000000) : Calls Tryz.prog 138 #[.int .i64 n] w fun e w' => e = .returned (.tuple #[.int .i64 (rt n), .int .i64 0]) ∧ w = w' := by
  have d1 : decide (n < 0) = false := decide_eq_false (by omega)
  have d2 : decide (1000000000000000000 < n) = false := decide_eq_false (by omega)
  go_enter Tryz.func138, Tryz.ntmps138
  go_wp2
  go_step3
  go_wp2
  go_step3
  go_wp2
  go_loop [4, 5] (fun s t => RelI n s t) (fun s t => (intOf t - intOf s).toNat)
  case atStart => exact ⟨0, 1000000000, by omega, by omega, by omega, by simpa using h1, by simp; omega, rfl, rfl⟩
  case round =>
    obtain ⟨lo, hi, a1, a2, a3, a4, a5, rfl, rfl⟩ := hrel
    have A4 := Lib.hid a4
    have A5 := Lib.hid a5
    clear a4 a5
    by_cases hlt : lo < hi
    · have hm := sq_bd (m := (lo + hi + 1) / 2) (by omega) (by omega)
      by_cases he : (lo + hi + 1) / 2 * ((lo + hi + 1) / 2) = n
      · have he1 : ((lo + hi + 1) / 2 * ((lo + hi + 1) / 2) == n) = true := beq_iff_eq.2 he
        have H := Lib.hid (rt_eq (n := n) (r := (lo + hi + 1) / 2) (by omega) (by omega) (by have := Int.add_mul ((lo + hi + 1) / 2) 1 ((lo + hi + 1) / 2 + 1); rw [this, Int.mul_add]; omega))
        clear he
        go_wp2
        go_ret2
        exact ⟨ret_int2 H.out rfl, rfl⟩
      · have he1 : ((lo + hi + 1) / 2 * ((lo + hi + 1) / 2) == n) = false := beq_eq_false_iff_ne.2 he
        by_cases hs : (lo + hi + 1) / 2 * ((lo + hi + 1) / 2) < n
        · go_wp2
          go_round
          case rel => exact ⟨(lo + hi + 1) / 2, hi, by omega, by omega, a3, by omega, A5.out, rfl, rfl⟩
          case measure => simp [intOf]; omega
        · go_wp2
          go_round
          case rel => exact ⟨lo, (lo + hi + 1) / 2 - 1, by omega, by omega, by omega, A4.out, by rw [Int.sub_add_cancel]; omega, rfl, rfl⟩
          case measure => simp [intOf]; omega
    · have H := Lib.hid (rt_eq (n := n) a1 A4.out (by have := A5.out; rw [show hi = lo by omega] at this; exact this))
      go_wp2
      go_ret2
      exact ⟨ret_int2 H.out rfl, rfl⟩

theorem rootOf_impl (n : Int) (w : World) : Calls Tryz.prog 138 #[.int .i64 n] w fun e w' => e = .returned (.tuple #[.int .i64 (roQ n), .int .i64 (roC n)]) ∧ w = w' := by
  by_cases h : 0 ≤ n ∧ n ≤ 1000000000000000000
  · rw [show roQ n = rt n from if_pos h, show roC n = 0 from if_pos h]
    exact rootOf_in n w h.1 h.2
  · have HQ := Lib.hid (show roQ n = 0 from if_neg h)
    have HC := Lib.hid (show roC n = 2 from if_neg h)
    by_cases h1 : n < 0
    · go_enter Tryz.func138, Tryz.ntmps138
      go_wp2
      go_step3
      go_wp2
      rw [Exit.noGoto_ret]
      go_ret2
      exact ⟨ret_int2 HQ.out HC.out, rfl⟩
    · have h2 : 1000000000000000000 < n := by omega
      clear h
      go_enter Tryz.func138, Tryz.ntmps138
      go_wp2
      go_step3
      go_wp2
      rw [Exit.noGoto_ret]
      go_ret2
      exact ⟨ret_int2 HQ.out HC.out, rfl⟩

end Go.Proofs.YtlheppblioglpaaGreat.Root
