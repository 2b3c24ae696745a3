/- Contracts of RootOf (impl, spec): both answer the integer root. -/
import Derived.Test.YtcangdcakgcpaaaPts
import Derived.Test.YtcangdcakgcpaaaRt
import Derived.Deep.LoopGhost
namespace Go.Proofs.Ytcangdcakgcpaaa.Root
open Go.ChangeShapes Go.WideShapes Go.ChangeAt Go.RowKit
open Go.Proofs.Ytcangdcakgcpaaa.Num Go.Proofs.Ytcangdcakgcpaaa.Rt
set_option linter.unusedVariables false

theorem sq_bd {m : Int} (h0 : 0 ≤ m) (h1 : m ≤ 1000000001) : 0 ≤ m * m ∧ m * m ≤ 1000000002000000001 := by
  have a := sq_le (a := 0) (b := m) (by omega) h0
  have b := sq_le (a := m) (b := 1000000001) h0 h1
  simp only [Int.reduceMul] at a b
  omega

/-- What the loop of l01Root keeps. -/
def RelS (n : Int) (s t : Value) : Prop := ∃ lo hi : Int, 0 ≤ lo ∧ lo < hi ∧ hi ≤ 1000000001 ∧ lo * lo ≤ n ∧ n < hi * hi ∧ s = .int .i64 lo ∧ t = .int .i64 hi

set_option maxHeartbeats 400000 in
theorem root_any (n : Int) (w : World) (h1 : 0 ≤ n) (h2 : n ≤ 1000000000000000000) : Calls Try.prog 131 #[.int .i64 n] w fun e w' => e = .returned (.int .i64 (rt n)) ∧ w = w' := by
  go_enter Try.func131, Try.ntmps131
  go_wp2
  go_loop [3, 4] (fun s t => RelS n s t) (fun s t => (intOf t - intOf s).toNat)
  case atStart => exact ⟨0, 1000000001, by omega, by omega, by omega, by simpa using h1, by simp; omega, rfl, rfl⟩
  case round =>
    obtain ⟨lo, hi, a1, a2, a3, a4, a5, rfl, rfl⟩ := hrel
    have A4 := Lib.hid a4
    have A5 := Lib.hid a5
    clear a4 a5
    by_cases hlt : lo + 1 < hi
    · have hm := sq_bd (m := (lo + hi) / 2) (by omega) (by omega)
      by_cases hs : (lo + hi) / 2 * ((lo + hi) / 2) ≤ n
      · go_wp2
        go_round
        case rel => exact ⟨(lo + hi) / 2, hi, by omega, by omega, a3, hs, A5.out, rfl, rfl⟩
        case measure => simp [intOf]; omega
      · go_wp2
        go_round
        case rel => exact ⟨lo, (lo + hi) / 2, by omega, by omega, by omega, A4.out, by omega, rfl, rfl⟩
        case measure => simp [intOf]; omega
    · have H := Lib.hid (rt_eq (n := n) a1 A4.out (by have := A5.out; rw [show hi = lo + 1 by omega] at this; exact this))
      go_wp2
      go_ret
      exact ⟨ret_int H.out, rfl⟩

/-- What RootOf's loop keeps. -/
def RelI (n : Int) (s t : Value) : Prop := ∃ lo hi : Int, 0 ≤ lo ∧ lo ≤ hi ∧ hi ≤ 1000000000 ∧ lo * lo ≤ n ∧ n < (hi + 1) * (hi + 1) ∧ s = .int .i64 lo ∧ t = .int .i64 hi

def roQ (n : Int) : Int := if 0 ≤ n ∧ n ≤ 1000000000000000000 then rt n else 0
def roC (n : Int) : Int := if 0 ≤ n ∧ n ≤ 1000000000000000000 then 0 else 2

end Go.Proofs.Ytcangdcakgcpaaa.Root
