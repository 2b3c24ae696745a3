import Derived.Test.YtmlojndkpnhalaaGreatRows
import Derived.WalkKit
import Derived.ProofKit
import Derived.OpenShut
import Derived.Lib.Hide
namespace Go.Proofs.YtmlojndkpnhalaaGreat.Num
open Go.ChangeShapes Go.WideShapes Go.ChangeAt Go.RowKit
set_option linter.unusedVariables false
theorem ret_int {k : IntKind} {a b : Int} (h : b = a) : Ending.returned (.int k a) = .returned (.int k b) := by rw [h]
theorem ret_bool {a b : Bool} (h : b = a) : Ending.returned (.bool a) = .returned (.bool b) := by rw [h]
theorem ret_int2 {k l : IntKind} {a b c d : Int} (h : b = a) (g : d = c) : Ending.returned (.tuple #[.int k a, .int l c]) = .returned (.tuple #[.int k b, .int l d]) := by rw [h, g]
def inB (n lo hi : Int) : Bool := decide (lo ≤ n ∧ n ≤ hi)
theorem inB_yes {n lo hi : Int} (h1 : lo ≤ n) (h2 : n ≤ hi) : inB n lo hi = true := by unfold inB; exact decide_eq_true ⟨h1, h2⟩
theorem inB_no {n lo hi : Int} (h : ¬ (lo ≤ n ∧ n ≤ hi)) : inB n lo hi = false := by unfold inB; exact decide_eq_false h
theorem of_inB {n lo hi : Int} (h : inB n lo hi = true) : lo ≤ n ∧ n ≤ hi := by unfold inB at h; exact of_decide_eq_true h
theorem in_any (n lo hi : Int) (w : World) : Calls Tryz.prog 82 #[.int .i64 n, .int .i64 lo, .int .i64 hi] w fun e w' => e = .returned (.bool (inB n lo hi)) ∧ w = w' := by
  by_cases h1 : lo ≤ n
  · by_cases h2 : n ≤ hi
    · have H := Lib.hid (inB_yes h1 h2)
      go_enter Tryz.func82, Tryz.ntmps82
      go_wp2
      go_ret
      exact ⟨ret_bool H.out, rfl⟩
    · have H := Lib.hid (inB_no (lo := lo) (fun h => h2 h.2))
      go_enter Tryz.func82, Tryz.ntmps82
      go_wp2
      go_ret
      exact ⟨ret_bool H.out, rfl⟩
  · have H := Lib.hid (inB_no (hi := hi) (fun h => h1 h.1))
    go_enter Tryz.func82, Tryz.ntmps82
    go_wp2
    go_ret
    exact ⟨ret_bool H.out, rfl⟩
def flo (a b : Int) : Int := if a.tmod b < 0 then a.tdiv b - 1 else a.tdiv b
theorem tdiv_bd {a b : Int} (hb : 1 ≤ b) (M : Int) (h1 : -M ≤ a) (h2 : a ≤ M) : -M ≤ a.tdiv b ∧ a.tdiv b ≤ M := by
  have h : (a.tdiv b).natAbs = a.natAbs / b.natAbs := Int.natAbs_tdiv a b
  have h3 : a.natAbs / b.natAbs ≤ a.natAbs := Nat.div_le_self _ _
  rw [← h] at h3
  omega
theorem floor_any (a b : Int) (w : World) (hb : 1 ≤ b) (h1 : -4000000000000000000 ≤ a) (h2 : a ≤ 4000000000000000000) : Calls Tryz.prog 129 #[.int .i64 a, .int .i64 b] w fun e w' => e = .returned (.int .i64 (flo a b)) ∧ w = w' := by
  obtain ⟨g1, g2⟩ := tdiv_bd hb 4000000000000000000 h1 h2
  by_cases hm : a.tmod b < 0
  · have H := Lib.hid (show flo a b = a.tdiv b - 1 from if_pos hm)
    go_enter Tryz.func129, Tryz.ntmps129
    go_wp2
    go_ret
    exact ⟨ret_int H.out, rfl⟩
  · have H := Lib.hid (show flo a b = a.tdiv b from if_neg hm)
    go_enter Tryz.func129, Tryz.ntmps129
    go_wp2
    go_ret
    exact ⟨ret_int H.out, rfl⟩
def fdQ (a b : Int) : Int := if 1 ≤ b ∧ b ≤ 1000000000000000000 ∧ -1000000000000000000 ≤ a ∧ a ≤ 1000000000000000000 then flo a b else 0
def fdC (a b : Int) : Int := if 1 ≤ b ∧ b ≤ 1000000000000000000 ∧ -1000000000000000000 ≤ a ∧ a ≤ 1000000000000000000 then 0 else 2
theorem floorDiv_impl (a b : Int) (w : World) : Calls Tryz.prog 316 #[.int .i64 a, .int .i64 b] w fun e w' => e = .returned (.tuple #[.int .i64 (fdQ a b), .int .i64 (fdC a b)]) ∧ w = w' := by
  by_cases h : 1 ≤ b ∧ b ≤ 1000000000000000000 ∧ -1000000000000000000 ≤ a ∧ a ≤ 1000000000000000000
  · have HC := Lib.hid (show fdC a b = 0 from if_pos h)
    have HQ0 := Lib.hid (show fdQ a b = flo a b from if_pos h)
    obtain ⟨h1, h2, h3, h4⟩ := h
    obtain ⟨g1, g2⟩ := tdiv_bd h1 1000000000000000000 h3 h4
    by_cases hm : a.tmod b < 0
    · have HQ := Lib.hid (HQ0.out.trans (show flo a b = a.tdiv b - 1 from if_pos hm))
      go_enter Tryz.func316, Tryz.ntmps316
      go_wp2
      go_ret2
      exact ⟨ret_int2 HQ.out HC.out, rfl⟩
    · have HQ := Lib.hid (HQ0.out.trans (show flo a b = a.tdiv b from if_neg hm))
      go_enter Tryz.func316, Tryz.ntmps316
      go_wp2
      go_ret2
      exact ⟨ret_int2 HQ.out HC.out, rfl⟩
  · have HC := Lib.hid (show fdC a b = 2 from if_neg h)
    have HQ := Lib.hid (show fdQ a b = 0 from if_neg h)
    by_cases h1 : b < 1
    · go_enter Tryz.func316, Tryz.ntmps316
      go_wp2
      go_ret2
      exact ⟨ret_int2 HQ.out HC.out, rfl⟩
    by_cases h2 : 1000000000000000000 < b
    · go_enter Tryz.func316, Tryz.ntmps316
      go_wp2
      go_ret2
      exact ⟨ret_int2 HQ.out HC.out, rfl⟩
    by_cases h3 : a < -1000000000000000000
    · go_enter Tryz.func316, Tryz.ntmps316
      go_wp2
      go_ret2
      exact ⟨ret_int2 HQ.out HC.out, rfl⟩
    have h4 : 1000000000000000000 < a := by omega
    clear h
    go_enter Tryz.func316, Tryz.ntmps316
    go_wp2
    go_ret2
    exact ⟨ret_int2 HQ.out HC.out, rfl⟩
end Go.Proofs.YtmlojndkpnhalaaGreat.Num
