import Derived.Test.YtmlojndkpnhalaaGreatMTrk
import Derived.Deep.LoopGhost
import Derived.Laws.EntriesVeiled
namespace Go.Proofs.YtmlojndkpnhalaaGreat.Trk
open Go.ChangeShapes Go.WideShapes Go.ChangeAt Go.RowKit
open Go.Proofs.YtmlojndkpnhalaaGreat.Num Go.Proofs.YtmlojndkpnhalaaGreat.Kit Go.Proofs.YtmlojndkpnhalaaGreat.Pts
set_option linter.unusedVariables false
set_option linter.unusedSimpArgs false
theorem wrap_pred {n : Nat} (h1 : 1 ≤ n) (hm : n ≤ maxLen) : IntKind.i64.wrap ((n : Int) - 1) = (n : Int) - 1 := IntWalk.i64_in _ (by unfold maxLen at hm; omega)
theorem wrap_succ {n : Nat} (hm : n ≤ 1000000) : IntKind.i64.wrap ((n : Int) + 1) = (n : Int) + 1 := IntWalk.i64_in _ (by omega)
end Go.Proofs.YtmlojndkpnhalaaGreat.Trk
namespace Go.Proofs.YtmlojndkpnhalaaGreat.Trk
open Go.ChangeShapes Go.WideShapes Go.ChangeAt Go.RowKit
open Go.Proofs.YtmlojndkpnhalaaGreat.Num Go.Proofs.YtmlojndkpnhalaaGreat.Kit Go.Proofs.YtmlojndkpnhalaaGreat.Pts
set_option linter.unusedVariables false
set_option linter.unusedSimpArgs false
theorem legCount_any (a : Option Addr) (cap n : Nat) (w : World) (h1 : 1 ≤ n) (hm : n ≤ 1000000) : Calls Tryz.prog 148 #[Tr (.slice a n cap)] w fun e w' => e = .returned (.int .i64 ((n - 1 : Nat) : Int)) ∧ Ext w w' := by
  have E : ((n - 1 : Nat) : Int) = (n : Int) - 1 := by omega
  have T0 : IntKind.i64.wrap ((n : Int) - 1) = (n : Int) - 1 := wrap_pred h1 (by unfold maxLen; omega)
  go_enter Tryz.func148, Tryz.ntmps148
  go_wp2
  go_ret
  exact ⟨ret_int E, (by repeat (first | exact Ext.refl _ | assumption | apply Ext.alloc | apply Ext.drew | (refine Ext.trans ?_ (by assumption)) | (refine Ext.setNew ?_ (by simp <;> omega) _)))⟩
abbrev Ptr (k : Nat) : Value := .pointer (some ⟨k, 0, none⟩)
end Go.Proofs.YtmlojndkpnhalaaGreat.Trk
namespace Go.Proofs.YtmlojndkpnhalaaGreat.Trk
open Go.ChangeShapes Go.WideShapes Go.ChangeAt Go.RowKit
open Go.Proofs.YtmlojndkpnhalaaGreat.Num Go.Proofs.YtmlojndkpnhalaaGreat.Kit Go.Proofs.YtmlojndkpnhalaaGreat.Pts
set_option linter.unusedVariables false
set_option linter.unusedSimpArgs false
def RelS (w : World) (n : Nat) (p : Nat → Bool) (i j : Value) (wr : World) : Prop :=
  ∃ lo hi : Nat, i = .int .i64 lo ∧ j = .int .i64 hi ∧ lo ≤ hi ∧ hi ≤ n ∧ (∀ x, x < lo → p x = false) ∧ (∀ x, hi ≤ x → x < n → p x = true) ∧ Ext w wr
theorem below_no {n k : Nat} {p : Nat → Bool} (hm : ∀ a b, a ≤ b → b < n → p a = true → p b = true) (hk : k < n) (h : p k = false) : ∀ x, x < k + 1 → p x = false := by
  intro x hx
  cases g : p x
  · rfl
  · rw [hm x k (by omega) hk g] at h; cases h
theorem okB_lt {fs : List F3} {k : Nat} (h : okB fs (k + 1) = true) : (fx fs k).t < (fx fs (k + 1)).t := by
  unfold okB at h
  simp at h
  exact h.2
end Go.Proofs.YtmlojndkpnhalaaGreat.Trk
namespace Go.Proofs.YtmlojndkpnhalaaGreat.Trk
open Go.ChangeShapes Go.WideShapes Go.ChangeAt Go.RowKit
open Go.Proofs.YtmlojndkpnhalaaGreat.Num Go.Proofs.YtmlojndkpnhalaaGreat.Kit Go.Proofs.YtmlojndkpnhalaaGreat.Pts
set_option linter.unusedVariables false
set_option linter.unusedSimpArgs false
end Go.Proofs.YtmlojndkpnhalaaGreat.Trk
