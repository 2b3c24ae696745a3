/- FnExactWindwardBoat: for every wind and list of points, impl.WindwardBoat and spec.WindwardBoat answer the same, with the same code, and the points are as they were. No condition. -/
import Derived.Test.YtkodmdfcppnfoaaWnd5
import Derived.ChangeOld
import Derived.Below
import Derived.Deep.DeepCutAuto
import Derived.Lib.SmallJoins
namespace Go.Proofs.Ytkodmdfcppnfoaa.fnExactWindwardBoat
open Go.ChangeShapes Go.WideShapes Go.ChangeAt Go.RowKit
open Go.Proofs.Ytkodmdfcppnfoaa.Kit Go.Proofs.Ytkodmdfcppnfoaa.Pts Go.Proofs.Ytkodmdfcppnfoaa.Wnd Go.Proofs.Ytkodmdfcppnfoaa.Mnv
set_option linter.unusedVariables false
set_option linter.unusedSimpArgs false

set_option maxRecDepth 100000 in
set_option maxHeartbeats 4000000 in
theorem walk (x y : Int) (a : Option Addr) (cap : Nat) (ps : List M2) (w : World) (hf1 : Mxs w a ps) : Calls Try.prog 12 #[Pt x y, .slice a ps.length cap] w fun e w' => e = .returned (.bool true) ∧ Ext w w' := by
  have HF1 := Lib.hid hf1
  have HM1 := Lib.hid hf1.1
  clear hf1
  have KS := Lib.hid (fun (a : Option Addr) (cap : Nat) (w : World) (hf : Mxs w a ps) => boat_spec x y a cap ps w hf)
  have KI := Lib.hid (fun (a : Option Addr) (cap : Nat) (w : World) (hf : Mxs w a ps) => boat_impl x y a cap ps w hf)
  generalize wbV x y ps = V at *
  generalize wbC x y ps = C at *
  obtain ⟨W0, hW0⟩ : ∃ W0, W0 = w.alloc (.cells #[.int .i64 x, .int .i64 y] 52) := ⟨_, rfl⟩
  have hX : Ext w W0 := hW0 ▸ ((Ext.refl w).alloc _)
  have hs0 : W0.heap.size = w.heap.size + 1 := by rw [hW0]; simp
  have e00 : ∀ w', (Ext W0) w' → w'.cell? ⟨w.heap.size, 0, none⟩ = some (.int .i64 x) := fun w' h => h.cellOf (by rw [hW0]; exact boxed 0 rfl (by simp))
  have e01 : ∀ w', (Ext W0) w' → w'.cell? ⟨w.heap.size, 1, none⟩ = some (.int .i64 y) := fun w' h => h.cellOf (by rw [hW0]; exact boxed 1 rfl (by simp))
  have hr0 := Ext.refl W0
  go_enter Try.func12, Try.ntmps12
  go_wp2_with fail
  refine (szPointS_any _ _ _ _ _ HM1.out (by omega) (by omega)).mono ?_
  rintro e z1 ⟨rfl, rfl⟩
  rw [← hW0]
  clear hW0 hr0
  by_cases hl1 : (1048576 : Int) - ps.length < 0
  · rw [szL_neg hl1]
    go_wp2
    go_ret
    exact ⟨rfl, hX⟩
  have hl1b : decide ((1048576 : Int) - ps.length < 0) = false := decide_eq_false hl1
  have HL1 := Lib.hid (show ps.length ≤ 1048576 by omega)
  rw [szL_pos hl1]
  have q00 := e00 W0 (Ext.refl W0)
  have q01 := e01 W0 (Ext.refl W0)
  go_wp2_with fail
  refine (toWind_any _ _ _).mono ?_
  rintro e w1 ⟨rfl, hz⟩
  clear q00 q01
  go_wp2_with fail
  refine (toPointS_any a cap ps _ (HF1.out.ext (hX.trans hz)) HL1.out).mono ?_
  rintro e w2 ⟨B2, rfl, -, O2, hy⟩
  replace hz := hz.trans hy
  clear hy
  go_wp2_with fail
  refine (KS.out _ _ _ (O2.mxs HM1.out)).mono ?_
  rintro e w3 ⟨rfl, hy⟩
  replace hz := hz.trans hy
  clear hy O2
  go_wp2_with fail
  refine (toPointS_any a cap ps _ (HF1.out.ext (hX.trans hz)) HL1.out).mono ?_
  rintro e w4 ⟨B4, rfl, -, O4, hy⟩
  replace hz := hz.trans hy
  clear hy
  have q00 := e00 w4 hz
  have q01 := e01 w4 hz
  go_wp2_with fail
  refine (toWind_any _ _ _).mono ?_
  rintro e w5 ⟨rfl, hy⟩
  replace hz := hz.trans hy
  replace O4 := O4.ext hy
  clear q00 q01 hy
  go_wp2_with fail
  refine (KI.out _ _ _ (O4.mxs HM1.out)).mono ?_
  rintro e w6 ⟨rfl, hy⟩
  replace hz := hz.trans hy
  replace O4 := O4.ext hy
  clear hy
  go_wp2_with fail
  refine (toPointS_any a cap ps _ (HF1.out.ext (hX.trans hz)) HL1.out).mono ?_
  rintro e w7 ⟨B7, rfl, -, O7, hy⟩
  replace hz := hz.trans hy
  replace O4 := O4.ext hy
  clear hy
  go_wp2_with fail
  refine (eqPointS_same _ _ _ _ _ _ (O4.mxs HM1.out) (O7.mxs HM1.out)).mono ?_
  rintro e w8 ⟨rfl, hy⟩
  go_wp2
  go_ret
  exact ⟨rfl, hX.trans (hz.trans hy)⟩

end Go.Proofs.Ytkodmdfcppnfoaa.fnExactWindwardBoat
