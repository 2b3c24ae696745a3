import Derived.Test.YtkbcmkfgkomddaaGreatMSta
import Derived.Test.YtkbcmkfgkomddaaGreatRoot
namespace Go.Proofs.YtkbcmkfgkomddaaGreat.Crs
open Go.ChangeShapes Go.WideShapes Go.ChangeAt Go.RowKit Go.PlainAid
open Go.Proofs.YtkbcmkfgkomddaaGreat.Num Go.Proofs.YtkbcmkfgkomddaaGreat.Kit Go.Proofs.YtkbcmkfgkomddaaGreat.Pts Go.Proofs.YtkbcmkfgkomddaaGreat.Seg Go.Proofs.YtkbcmkfgkomddaaGreat.Div Go.Proofs.YtkbcmkfgkomddaaGreat.Root Go.Proofs.YtkbcmkfgkomddaaGreat.Rt
set_option linter.unusedVariables false
set_option linter.unusedSimpArgs false
theorem sq_nn (x : Int) : 0 ≤ x * x := by
  rcases Int.le_total 0 x with h | h
  · exact Int.mul_nonneg h h
  · have q := Int.mul_nonneg (show 0 ≤ -x by omega) (show 0 ≤ -x by omega)
    rwa [Int.neg_mul_neg] at q
theorem sqs_bd {x y : Int} (hx : -2000000 ≤ x ∧ x ≤ 2000000) (hy : -2000000 ≤ y ∧ y ≤ 2000000) : 0 ≤ x * x + y * y ∧ x * x + y * y ≤ 8000000000000 := by
  obtain ⟨_, a⟩ := mul_bd 2000000 2000000 hx hx
  obtain ⟨_, b⟩ := mul_bd 2000000 2000000 hy hy
  have c := sq_nn x
  have d := sq_nn y
  simp only [Int.reduceMul] at a b
  omega
theorem length_any (x y : Int) (w : World) (hx : -2000000 ≤ x ∧ x ≤ 2000000) (hy : -2000000 ≤ y ∧ y ≤ 2000000) :
    Calls Tryz.prog 160 #[Pt x y] w fun e w' => e = .returned (.int .i64 (rt (x * x + y * y))) ∧ Ext w w' := by
  obtain ⟨b0, b1⟩ := sqs_bd hx hy
  have PS := Lib.hid (fun w => squareLength_any x y w hx hy)
  obtain ⟨Q, hQ⟩ : ∃ Q, Q = x * x + y * y := ⟨_, rfl⟩
  rw [← hQ] at PS b0 b1 ⊢
  clear hQ
  have PR := Lib.hid (fun w => rootOf_in Q w b0 (by omega))
  obtain ⟨R, hR⟩ : ∃ R, R = rt Q := ⟨_, rfl⟩
  rw [← hR] at PR ⊢
  clear hR
  go_enter Tryz.func160, Tryz.ntmps160
  go_wp2_with fail
  refine (PS.out _).mono ?_
  rintro e w1 ⟨rfl, hx1⟩
  go_wp2_with fail
  refine (PR.out _).mono ?_
  rintro e w2 ⟨rfl, rfl⟩
  go_wp2
  go_ret
  exact ⟨rfl, (by repeat (first | exact Ext.refl _ | assumption | apply Ext.alloc | apply Ext.drew | (refine Ext.trans ?_ (by assumption)) | (refine Ext.setNew ?_ (by simp <;> omega) _)))⟩
theorem int64Info : (Tryz.prog.info? 2).map (fun i => (i.zero, i.size, i.bytes)) = some (some (.int .i64 0), 1, 8) := by kernel_rfl
theorem st_co {l k : L4} {ms : List M5} (h : pvB l k ms = true) (i : Nat) : Co (stP l k ms i).x ∧ Co (stP l k ms i).y := ptB_yes (st_pt h i)
theorem cr_pv {l k : L4} {ms : List M5} (h : crB l k ms = true) : pvB l k ms = true := by
  unfold crB at h
  simp only [Bool.and_eq_true] at h
  exact h.2.2.1
theorem one_int (x : Int) : ∀ u ∈ ([.int .i64 x] : List Value), u.oneCell' = true := fun u hu => by simp at hu; subst hu; rfl
end Go.Proofs.YtkbcmkfgkomddaaGreat.Crs
