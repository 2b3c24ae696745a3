import Derived.Test.YtcangdcakgcpaaaGreatLen
import Derived.Test.YtcangdcakgcpaaaGreatMCrs2
namespace Go.Proofs.YtcangdcakgcpaaaGreat.Crs
open Go.ChangeShapes Go.WideShapes Go.ChangeAt Go.RowKit Go.PlainAid
open Go.Proofs.YtcangdcakgcpaaaGreat.Num Go.Proofs.YtcangdcakgcpaaaGreat.Kit Go.Proofs.YtcangdcakgcpaaaGreat.Pts Go.Proofs.YtcangdcakgcpaaaGreat.Seg Go.Proofs.YtcangdcakgcpaaaGreat.Root Go.Proofs.YtcangdcakgcpaaaGreat.Rt
set_option linter.unusedVariables false
theorem mk_yes {m : M5} (h : mkB m = true) : (Co m.x ∧ Co m.y) ∧ (m.s = 1 ∨ m.s = 2) ∧ 1 ≤ m.z ∧ m.z ≤ 5000 := by
  have hp := ptB_yes (mk_pt h)
  unfold mkB at h
  simp only [Bool.and_eq_true] at h
  have a := of_inB h.2.2.1
  have b := of_inB h.2.2.2
  exact ⟨hp, by omega, b.1, b.2⟩
theorem cr_mk {l k : L4} {ms : List M5} (h : crB l k ms = true) {i : Nat} (hi : i < ms.length) : mkB (mk ms i) = true := by
  have := pv_yes (cr_pv h) (i + 1) (by omega)
  unfold okB at this
  rw [if_neg (by omega), if_pos (by omega), Nat.add_sub_cancel] at this
  exact this
end Go.Proofs.YtcangdcakgcpaaaGreat.Crs
