import Derived.Test.YtmlojndkpnhalaaGreatMSta
namespace Go.Proofs.YtmlojndkpnhalaaGreat.Crs
open Go.ChangeShapes Go.WideShapes Go.ChangeAt Go.RowKit
open Go.Proofs.YtmlojndkpnhalaaGreat.Num Go.Proofs.YtmlojndkpnhalaaGreat.Kit Go.Proofs.YtmlojndkpnhalaaGreat.Pts Go.Proofs.YtmlojndkpnhalaaGreat.Seg
set_option linter.unusedVariables false
set_option linter.unusedSimpArgs false
theorem hasMark_any (l k : L4) (a : Option Addr) (cap len : Nat) (n : Int) (w : World) (hl : len ≤ maxLen) :
    Calls Tryz.prog 146 #[CV l k (.slice a len cap), .int .i64 n] w fun e w' => e = .returned (.bool (decide (0 ≤ n ∧ n < len))) ∧ Ext w w' := by
  unfold maxLen at hl
  by_cases h0 : 0 ≤ n
  · have d0 : decide (0 ≤ n) = true := decide_eq_true h0
    by_cases h1 : n < (len : Int)
    · have H := Lib.hid (show decide (0 ≤ n ∧ n < len) = true from decide_eq_true ⟨h0, h1⟩)
      have d1 : decide (n < (len : Int)) = true := decide_eq_true h1
      go_enter Tryz.func146, Tryz.ntmps146
      go_wp2
      go_ret
      exact ⟨(by first | exact ret_bool H.out | rfl), (by repeat (first | exact Ext.refl _ | assumption | apply Ext.alloc | apply Ext.drew | (refine Ext.trans ?_ (by assumption)) | (refine Ext.setNew ?_ (by simp <;> omega) _)))⟩
    · have H := Lib.hid (show decide (0 ≤ n ∧ n < len) = false from decide_eq_false (fun h => h1 h.2))
      have d1 : decide (n < (len : Int)) = false := decide_eq_false h1
      go_enter Tryz.func146, Tryz.ntmps146
      go_wp2
      go_ret
      exact ⟨(by first | exact ret_bool H.out | rfl), (by repeat (first | exact Ext.refl _ | assumption | apply Ext.alloc | apply Ext.drew | (refine Ext.trans ?_ (by assumption)) | (refine Ext.setNew ?_ (by simp <;> omega) _)))⟩
  · have H := Lib.hid (show decide (0 ≤ n ∧ n < len) = false from decide_eq_false (fun h => h0 h.1))
    have d0 : decide (0 ≤ n) = false := decide_eq_false h0
    go_enter Tryz.func146, Tryz.ntmps146
    go_wp2
    go_ret
    exact ⟨(by first | exact ret_bool H.out | rfl), (by repeat (first | exact Ext.refl _ | assumption | apply Ext.alloc | apply Ext.drew | (refine Ext.trans ?_ (by assumption)) | (refine Ext.setNew ?_ (by simp <;> omega) _)))⟩
end Go.Proofs.YtmlojndkpnhalaaGreat.Crs
