/- The contract of math/bits.Div64 where the upper word is zero: plain quotient and remainder. -/
import Derived.Test.YtmebaihacddhfaaCel
import Derived.Test.YtmebaihacddhfaaNum
import Derived.Laws.Bits64b
import Derived.Deep.QuietTactic
import Derived.BigQuiet
import Derived.Lib.Hide
namespace Go.Proofs.Ytmebaihacddhfaa.Div
open Go.ChangeShapes Go.WideShapes Go.ChangeAt Go.RowKit
open Go.Proofs.Ytmebaihacddhfaa.Num Go.Proofs.Ytmebaihacddhfaa.Kit
set_option linter.unusedVariables false
set_option linter.unusedSimpArgs false

theorem div64_zero (lo y : Nat) (w : World) (y1 : 1 ≤ y) (y2 : y ≤ 100000000000000) (l2 : lo < 18446744073709551616) :
    Calls Try.prog 124 #[.int .u64 0, .int .u64 lo, .int .u64 y] w fun e w' => e = .returned (.tuple #[.int .u64 ((lo / y : Nat) : Int), .int .u64 ((lo % y : Nat) : Int)]) ∧ Ext w w' := by
  have b1 : lo / y ≤ lo := Nat.div_le_self _ _
  have b2 : lo % y < y := Nat.mod_lt _ (by omega)
  have e0 : ((y : Int) == 0) = false := beq_eq_false_iff_ne.2 (by omega)
  have p1 : (1 : Int) ≤ (y : Int) := by omega
  have H1 := Lib.hid (show ((lo / y : Nat) : Int) = (lo : Int) / (y : Int) from Int.natCast_ediv lo y)
  have H2 := Lib.hid (show ((lo % y : Nat) : Int) = (lo : Int) % (y : Int) from Int.natCast_emod lo y)
  have q1 : 0 ≤ (lo : Int) / (y : Int) ∧ (lo : Int) / (y : Int) ≤ lo := ⟨Int.ediv_nonneg (by omega) (by omega), by rw [← H1.out]; exact Int.ofNat_le.2 b1⟩
  have q2 : 0 ≤ (lo : Int) % (y : Int) ∧ (lo : Int) % (y : Int) < y := ⟨Int.emod_nonneg _ (by omega), Int.emod_lt_of_pos _ (by omega)⟩
  obtain ⟨q11, q12⟩ := q1
  obtain ⟨q21, q22⟩ := q2
  clear b1 b2
  go_enter Try.func124, Try.ntmps124
  go_wp2_with fail
  go_quiet (fail)
  go_wp2
  go_ret2
  exact ⟨ret_int2 H1.out H2.out, (Ext.refl _).drewN _⟩

end Go.Proofs.Ytmebaihacddhfaa.Div
