import Derived.Test.YtmlojndkpnhalaaGreatMSta
import Derived.Test.YtmlojndkpnhalaaGreatMRoot
namespace Go.Proofs.YtmlojndkpnhalaaGreat.Crs
open Go.ChangeShapes Go.WideShapes Go.ChangeAt Go.RowKit Go.PlainAid
open Go.Proofs.YtmlojndkpnhalaaGreat.Num Go.Proofs.YtmlojndkpnhalaaGreat.Kit Go.Proofs.YtmlojndkpnhalaaGreat.Pts Go.Proofs.YtmlojndkpnhalaaGreat.Seg Go.Proofs.YtmlojndkpnhalaaGreat.Div Go.Proofs.YtmlojndkpnhalaaGreat.Root Go.Proofs.YtmlojndkpnhalaaGreat.Rt
set_option linter.unusedVariables false
set_option linter.unusedSimpArgs false
theorem sq_nn (x : Int) : 0 ≤ x * x := by
  rcases Int.le_total 0 x with h | h
  · exact Int.mul_nonneg h h
  · have q := Int.mul_nonneg (show 0 ≤ -x by omega) (show 0 ≤ -x by omega)
    rwa [Int.neg_mul_neg] at q
theorem sqs_bd {x y : Int} (hx : -2000000 ≤ x ∧ x ≤ 2000000) (hy : -2000000 ≤ y ∧ y ≤ 2000000) : 0 ≤ x * x + y * y ∧ x * x + y * y ≤ 8000000000000 := by
  obtain ⟨_, a⟩ := mul_bd 2000000 2000000 hx hx
  obtain ⟨_, b⟩ := mul_bd 2000000 2000000 hy hy
  have c := sq_nn x
  have d := sq_nn y
  simp only [Int.reduceMul] at a b
  omega
theorem length_any (x y : Int) (w : World) (hx : -2000000 ≤ x ∧ x ≤ 2000000) (hy : -2000000 ≤ y ∧ y ≤ 2000000) :
    Calls Tryz.prog 317 #[Pt x y] w fun e w' => e = .returned (.int .i64 (rt (x * x + y * y))) ∧ Ext w w' := by
  obtain ⟨b0, b1⟩ := sqs_bd hx hy
  have PS := Lib.hid (fun w => squareLength_any x y w hx hy)
  obtain ⟨Q, hQ⟩ : ∃ Q, Q = x * x + y * y := ⟨_, rfl⟩
  rw [← hQ] at PS b0 b1 ⊢
  clear hQ
  have PR := Lib.hid (fun w => rootOf_in Q w b0 (by omega))
  obtain ⟨R, hR⟩ : ∃ R, R = rt Q := ⟨_, rfl⟩
  rw [← hR] at PR ⊢
  clear hR
  go_enter Tryz.func317, Tryz.ntmps317
  go_wp2_with fail
  refine (PS.out _).mono ?_
  rintro e w1 ⟨rfl, hx1⟩
  go_wp2_with fail
  refine (PR.out _).mono ?_
  rintro e w2 ⟨rfl, rfl⟩
  go_wp2
  go_ret
  exact ⟨rfl, (by repeat (first | exact Ext.refl _ | assumption | apply Ext.alloc | apply Ext.drew | (refine Ext.trans ?_ (by assumption)) | (refine Ext.setNew ?_ (by simp <;> omega) _)))⟩
theorem int64Info : (Tryz.prog.info? 2).map (fun i => (i.zero, i.size, i.bytes)) = some (some (.int .i64 0), 1, 8) := by kernel_rfl
theorem st_co {l k : L4} {ms : List M5} (h : pvB l k ms = true) (i : Nat) : Co (stP l k ms i).x ∧ Co (stP l k ms i).y := ptB_yes (st_pt h i)
theorem cr_pv {l k : L4} {ms : List M5} (h : crB l k ms = true) : pvB l k ms = true := by
  unfold crB at h
  simp only [Bool.and_eq_true] at h
  exact h.2.2.1
theorem one_int (x : Int) : ∀ u ∈ ([.int .i64 x] : List Value), u.oneCell' = true := fun u hu => by simp at hu; subst hu; rfl
end Go.Proofs.YtmlojndkpnhalaaGreat.Crs
namespace Go.Proofs.YtmlojndkpnhalaaGreat.Crs
open Go.ChangeShapes Go.WideShapes Go.ChangeAt Go.RowKit Go.PlainAid
open Go.Proofs.YtmlojndkpnhalaaGreat.Num Go.Proofs.YtmlojndkpnhalaaGreat.Kit Go.Proofs.YtmlojndkpnhalaaGreat.Pts Go.Proofs.YtmlojndkpnhalaaGreat.Seg Go.Proofs.YtmlojndkpnhalaaGreat.Root Go.Proofs.YtmlojndkpnhalaaGreat.Rt
set_option linter.unusedVariables false
theorem mk_yes {m : M5} (h : mkB m = true) : (Co m.x ∧ Co m.y) ∧ (m.s = 1 ∨ m.s = 2) ∧ 1 ≤ m.z ∧ m.z ≤ 5000 := by
  have hp := ptB_yes (mk_pt h)
  unfold mkB at h
  simp only [Bool.and_eq_true] at h
  have a := of_inB h.2.2.1
  have b := of_inB h.2.2.2
  exact ⟨hp, by omega, b.1, b.2⟩
theorem cr_mk {l k : L4} {ms : List M5} (h : crB l k ms = true) {i : Nat} (hi : i < ms.length) : mkB (mk ms i) = true := by
  have := pv_yes (cr_pv h) (i + 1) (by omega)
  unfold okB at this
  rw [if_neg (by omega), if_pos (by omega), Nat.add_sub_cancel] at this
  exact this
theorem rootE (n : Int) (w : World) (h1 : 0 ≤ n) (h2 : n ≤ 1000000000000000000) :
    Calls Tryz.prog 132 #[.int .i64 n] w fun e w' => e = .returned (.int .i64 (rt n)) ∧ Ext w w' :=
  (root_any n w h1 h2).mono fun e w' h => ⟨h.1, h.2 ▸ Ext.refl w⟩
end Go.Proofs.YtmlojndkpnhalaaGreat.Crs
