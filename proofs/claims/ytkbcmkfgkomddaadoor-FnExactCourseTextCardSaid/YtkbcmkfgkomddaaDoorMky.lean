import Derived.Test.YtkbcmkfgkomddaaDoorLen
import Derived.Test.YtkbcmkfgkomddaaDoorCrs2
namespace Go.Proofs.YtkbcmkfgkomddaaDoor.Crs
open Go.ChangeShapes Go.WideShapes Go.ChangeAt Go.RowKit Go.PlainAid
open Go.Proofs.YtkbcmkfgkomddaaDoor.Num Go.Proofs.YtkbcmkfgkomddaaDoor.Kit Go.Proofs.YtkbcmkfgkomddaaDoor.Pts Go.Proofs.YtkbcmkfgkomddaaDoor.Seg Go.Proofs.YtkbcmkfgkomddaaDoor.Root Go.Proofs.YtkbcmkfgkomddaaDoor.Rt
set_option linter.unusedVariables false
theorem mk_yes {m : M5} (h : mkB m = true) : (Co m.x ∧ Co m.y) ∧ (m.s = 1 ∨ m.s = 2) ∧ 1 ≤ m.z ∧ m.z ≤ 5000 := by
  have hp := ptB_yes (mk_pt h)
  unfold mkB at h
  simp only [Bool.and_eq_true] at h
  have a := of_inB h.2.2.1
  have b := of_inB h.2.2.2
  exact ⟨hp, by omega, b.1, b.2⟩
theorem cr_mk {l k : L4} {ms : List M5} (h : crB l k ms = true) {i : Nat} (hi : i < ms.length) : mkB (mk ms i) = true := by
  have := pv_yes (cr_pv h) (i + 1) (by omega)
  unfold okB at this
  rw [if_neg (by omega), if_pos (by omega), Nat.add_sub_cancel] at this
  exact this
end Go.Proofs.YtkbcmkfgkomddaaDoor.Crs
