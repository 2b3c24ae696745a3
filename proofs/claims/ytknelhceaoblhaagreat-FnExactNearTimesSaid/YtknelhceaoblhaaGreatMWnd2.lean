import Derived.Test.YtknelhceaoblhaaGreatMPts
import Derived.Test.YtknelhceaoblhaaGreatMRoot
import Derived.Test.YtknelhceaoblhaaGreatOrd
import Derived.Deep.DeepCutAuto
import Derived.Laws.EntriesVeiled
namespace Go.Proofs.YtknelhceaoblhaaGreat.Wnd
open Go.ChangeShapes Go.WideShapes Go.ChangeAt Go.RowKit
open Go.Proofs.YtknelhceaoblhaaGreat.Num Go.Proofs.YtknelhceaoblhaaGreat.Kit Go.Proofs.YtknelhceaoblhaaGreat.Pts Go.Proofs.YtknelhceaoblhaaGreat.Seg Go.Proofs.YtknelhceaoblhaaGreat.Gcd
set_option linter.unusedVariables false
set_option linter.unusedSimpArgs false
def WB (w : World) (k : Nat) (x y : Int) : Prop := w.cell? ⟨k, 0, none⟩ = some (.int .i64 x) ∧ w.cell? ⟨k, 1, none⟩ = some (.int .i64 y)
theorem WB.ext {w w' : World} {k : Nat} {x y : Int} (h : WB w k x y) (e : Ext w w') : WB w' k x y := ⟨e.cellOf h.1, e.cellOf h.2⟩
theorem WB.chg {w w' : World} {k B : Nat} {x y : Int} (h : WB w k x y) (e : Chg B w w') (hB : k ≠ B) : WB w' k x y := ⟨e.cellOf hB h.1, e.cellOf hB h.2⟩
end Go.Proofs.YtknelhceaoblhaaGreat.Wnd
namespace Go.Proofs.YtknelhceaoblhaaGreat.Hul
open Go.ChangeShapes Go.WideShapes Go.ChangeAt Go.RowKit
open Go.Proofs.YtknelhceaoblhaaGreat.Num Go.Proofs.YtknelhceaoblhaaGreat.Kit Go.Proofs.YtknelhceaoblhaaGreat.Pts Go.Proofs.YtknelhceaoblhaaGreat.Seg Go.Proofs.YtknelhceaoblhaaGreat.Wnd
set_option linter.unusedVariables false
set_option linter.unusedSimpArgs false
abbrev Hv (a b c d n : Int) : Value := .agg #[.int .i64 a, .int .i64 b, .int .i64 c, .int .i64 d, .int .i64 n]
def hlB (a b c d n : Int) : Bool := ptB a b && (hdB c d && inB n 1 1000)
theorem hlB_yes {a b c d n : Int} (h : hlB a b c d n = true) : (Co a ∧ Co b) ∧ ((-2000000 ≤ c ∧ c ≤ 2000000) ∧ (-2000000 ≤ d ∧ d ≤ 2000000) ∧ ¬ (c = 0 ∧ d = 0)) ∧ 1 ≤ n ∧ n ≤ 1000 := by
  unfold hlB at h
  rw [Bool.and_eq_true, Bool.and_eq_true] at h
  exact ⟨ptB_yes h.1, hdB_yes h.2.1, of_inB h.2.2⟩
theorem hullValid_any (a b c d n : Int) (w : World) : Calls Tryz.prog 121 #[Hv a b c d n] w fun e w' => e = .returned (.bool (hlB a b c d n)) ∧ Ext w w' := by
  obtain ⟨W0, hW0⟩ : ∃ W0, W0 = w.alloc (.cells #[.int .i64 a, .int .i64 b, .int .i64 c, .int .i64 d, .int .i64 n] 115) := ⟨_, rfl⟩
  have hX : Ext w W0 := hW0 ▸ ((Ext.refl w).alloc _)
  have hs0 : W0.heap.size = w.heap.size + 1 := by rw [hW0]; simp
  have e00 : ∀ w', (Ext W0) w' → w'.cell? ⟨w.heap.size, 0, none⟩ = some (.int .i64 a) := fun w' h => h.cellOf (by rw [hW0]; exact boxed 0 rfl (by simp))
  have e01 : ∀ w', (Ext W0) w' → w'.cell? ⟨w.heap.size, 1, none⟩ = some (.int .i64 b) := fun w' h => h.cellOf (by rw [hW0]; exact boxed 1 rfl (by simp))
  have e02 : ∀ w', (Ext W0) w' → w'.cell? ⟨w.heap.size, 2, none⟩ = some (.int .i64 c) := fun w' h => h.cellOf (by rw [hW0]; exact boxed 2 rfl (by simp))
  have e03 : ∀ w', (Ext W0) w' → w'.cell? ⟨w.heap.size, 3, none⟩ = some (.int .i64 d) := fun w' h => h.cellOf (by rw [hW0]; exact boxed 3 rfl (by simp))
  have e04 : ∀ w', (Ext W0) w' → w'.cell? ⟨w.heap.size, 4, none⟩ = some (.int .i64 n) := fun w' h => h.cellOf (by rw [hW0]; exact boxed 4 rfl (by simp))
  go_enter Tryz.func121, Tryz.ntmps121
  go_wp2_with fail
  refine (isValid_any _ _ _).mono ?_
  rintro e w1 ⟨rfl, hz⟩
  rw [← hW0] at hz
  clear hW0
  replace hz : Ext W0 w1 := hz
  cases h1 : ptB a b
  · have HB := Lib.hid (show hlB a b c d n = false by unfold hlB; rw [h1]; rfl)
    go_wp2
    go_ret
    exact ⟨ret_bool HB.out, hX.trans hz⟩
  have g2 := e02 w1 hz
  have g3 := e03 w1 hz
  go_wp2_with fail
  refine (isHeading_any _ _ _).mono ?_
  rintro e w2 ⟨rfl, hy⟩
  replace hz := hz.trans hy
  clear hy g2 g3
  cases h2 : hdB c d
  · have HB := Lib.hid (show hlB a b c d n = false by unfold hlB; rw [h1, h2]; rfl)
    go_wp2
    go_ret
    exact ⟨ret_bool HB.out, hX.trans hz⟩
  have HB := Lib.hid (show hlB a b c d n = inB n 1 1000 by unfold hlB; rw [h1, h2]; rfl)
  have g4 := e04 w2 hz
  go_wp2_with fail
  refine (isHullLength_any _ _).mono ?_
  rintro e w3 ⟨rfl, rfl⟩
  go_wp2
  go_ret
  exact ⟨ret_bool HB.out, hX.trans hz⟩
theorem isHull_spec (a b c d n : Int) (w : World) : Calls Tryz.prog 95 #[Hv a b c d n] w fun e w' => e = .returned (.bool (hlB a b c d n)) ∧ Ext w w' := by
  obtain ⟨W0, hW0⟩ : ∃ W0, W0 = w.alloc (.cells #[.int .i64 a, .int .i64 b, .int .i64 c, .int .i64 d, .int .i64 n] 115) := ⟨_, rfl⟩
  have hX : Ext w W0 := hW0 ▸ ((Ext.refl w).alloc _)
  have hs0 : W0.heap.size = w.heap.size + 1 := by rw [hW0]; simp
  have e00 : ∀ w', (Ext W0) w' → w'.cell? ⟨w.heap.size, 0, none⟩ = some (.int .i64 a) := fun w' h => h.cellOf (by rw [hW0]; exact boxed 0 rfl (by simp))
  have e01 : ∀ w', (Ext W0) w' → w'.cell? ⟨w.heap.size, 1, none⟩ = some (.int .i64 b) := fun w' h => h.cellOf (by rw [hW0]; exact boxed 1 rfl (by simp))
  have e02 : ∀ w', (Ext W0) w' → w'.cell? ⟨w.heap.size, 2, none⟩ = some (.int .i64 c) := fun w' h => h.cellOf (by rw [hW0]; exact boxed 2 rfl (by simp))
  have e03 : ∀ w', (Ext W0) w' → w'.cell? ⟨w.heap.size, 3, none⟩ = some (.int .i64 d) := fun w' h => h.cellOf (by rw [hW0]; exact boxed 3 rfl (by simp))
  have e04 : ∀ w', (Ext W0) w' → w'.cell? ⟨w.heap.size, 4, none⟩ = some (.int .i64 n) := fun w' h => h.cellOf (by rw [hW0]; exact boxed 4 rfl (by simp))
  go_enter Tryz.func95, Tryz.ntmps95
  go_wp2_with fail
  refine (isPoint_spec _ _ _).mono ?_
  rintro e w1 ⟨rfl, hz⟩
  rw [← hW0] at hz
  clear hW0
  replace hz : Ext W0 w1 := hz
  cases h1 : ptB a b
  · have HB := Lib.hid (show hlB a b c d n = false by unfold hlB; rw [h1]; rfl)
    go_wp2
    go_ret
    exact ⟨ret_bool HB.out, hX.trans hz⟩
  have g2 := e02 w1 hz
  have g3 := e03 w1 hz
  go_wp2_with fail
  refine (headingS_any _ _ _).mono ?_
  rintro e w2 ⟨rfl, hy⟩
  replace hz := hz.trans hy
  clear hy g2 g3
  cases h2 : hdB c d
  · have HB := Lib.hid (show hlB a b c d n = false by unfold hlB; rw [h1, h2]; rfl)
    go_wp2
    go_ret
    exact ⟨ret_bool HB.out, hX.trans hz⟩
  have HB := Lib.hid (show hlB a b c d n = inB n 1 1000 by unfold hlB; rw [h1, h2]; rfl)
  have g4 := e04 w2 hz
  go_wp2_with fail
  refine (in_any _ _ _ _).mono ?_
  rintro e w3 ⟨rfl, rfl⟩
  go_wp2
  go_ret
  exact ⟨ret_bool HB.out, hX.trans hz⟩
end Go.Proofs.YtknelhceaoblhaaGreat.Hul
