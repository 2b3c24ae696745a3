import Derived.Test.YtkbcmkfgkomddaaGreatLen
import Derived.Test.YtkbcmkfgkomddaaGreatMSta
namespace Go.Proofs.YtkbcmkfgkomddaaGreat.Crs
open Go.ChangeShapes Go.WideShapes Go.ChangeAt Go.RowKit Go.PlainAid
open Go.Proofs.YtkbcmkfgkomddaaGreat.Num Go.Proofs.YtkbcmkfgkomddaaGreat.Kit Go.Proofs.YtkbcmkfgkomddaaGreat.Pts Go.Proofs.YtkbcmkfgkomddaaGreat.Seg Go.Proofs.YtkbcmkfgkomddaaGreat.Root Go.Proofs.YtkbcmkfgkomddaaGreat.Rt
set_option linter.unusedVariables false
theorem mk_yes {m : M5} (h : mkB m = true) : (Co m.x ∧ Co m.y) ∧ (m.s = 1 ∨ m.s = 2) ∧ 1 ≤ m.z ∧ m.z ≤ 5000 := by
  have hp := ptB_yes (mk_pt h)
  unfold mkB at h
  simp only [Bool.and_eq_true] at h
  have a := of_inB h.2.2.1
  have b := of_inB h.2.2.2
  exact ⟨hp, by omega, b.1, b.2⟩
theorem cr_mk {l k : L4} {ms : List M5} (h : crB l k ms = true) {i : Nat} (hi : i < ms.length) : mkB (mk ms i) = true := by
  have := pv_yes (cr_pv h) (i + 1) (by omega)
  unfold okB at this
  rw [if_neg (by omega), if_pos (by omega), Nat.add_sub_cancel] at this
  exact this
theorem rootE (n : Int) (w : World) (h1 : 0 ≤ n) (h2 : n ≤ 1000000000000000000) :
    Calls Tryz.prog 79 #[.int .i64 n] w fun e w' => e = .returned (.int .i64 (rt n)) ∧ Ext w w' :=
  (root_any n w h1 h2).mono fun e w' h => ⟨h.1, h.2 ▸ Ext.refl w⟩
end Go.Proofs.YtkbcmkfgkomddaaGreat.Crs
