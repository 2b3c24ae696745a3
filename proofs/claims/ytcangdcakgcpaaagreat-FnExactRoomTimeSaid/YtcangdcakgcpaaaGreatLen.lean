import Derived.Test.YtcangdcakgcpaaaGreatSto
import Derived.Test.YtcangdcakgcpaaaGreatRoot
namespace Go.Proofs.YtcangdcakgcpaaaGreat.Crs
open Go.ChangeShapes Go.WideShapes Go.ChangeAt Go.RowKit Go.PlainAid
open Go.Proofs.YtcangdcakgcpaaaGreat.Num Go.Proofs.YtcangdcakgcpaaaGreat.Kit Go.Proofs.YtcangdcakgcpaaaGreat.Pts Go.Proofs.YtcangdcakgcpaaaGreat.Seg Go.Proofs.YtcangdcakgcpaaaGreat.Div Go.Proofs.YtcangdcakgcpaaaGreat.Root Go.Proofs.YtcangdcakgcpaaaGreat.Rt
set_option linter.unusedVariables false
set_option linter.unusedSimpArgs false
theorem sq_nn (x : Int) : 0 ≤ x * x := by
  rcases Int.le_total 0 x with h | h
  · exact Int.mul_nonneg h h
  · have q := Int.mul_nonneg (show 0 ≤ -x by omega) (show 0 ≤ -x by omega)
    rwa [Int.neg_mul_neg] at q
theorem sqs_bd {x y : Int} (hx : -2000000 ≤ x ∧ x ≤ 2000000) (hy : -2000000 ≤ y ∧ y ≤ 2000000) : 0 ≤ x * x + y * y ∧ x * x + y * y ≤ 8000000000000 := by
  obtain ⟨_, a⟩ := mul_bd 2000000 2000000 hx hx
  obtain ⟨_, b⟩ := mul_bd 2000000 2000000 hy hy
  have c := sq_nn x
  have d := sq_nn y
  simp only [Int.reduceMul] at a b
  omega
theorem int64Info : (Tryz.prog.info? 2).map (fun i => (i.zero, i.size, i.bytes)) = some (some (.int .i64 0), 1, 8) := by kernel_rfl
theorem cr_pv {l k : L4} {ms : List M5} (h : crB l k ms = true) : pvB l k ms = true := by
  unfold crB at h
  simp only [Bool.and_eq_true] at h
  exact h.2.2.1
theorem one_int (x : Int) : ∀ u ∈ ([.int .i64 x] : List Value), u.oneCell' = true := fun u hu => by simp at hu; subst hu; rfl
end Go.Proofs.YtcangdcakgcpaaaGreat.Crs
