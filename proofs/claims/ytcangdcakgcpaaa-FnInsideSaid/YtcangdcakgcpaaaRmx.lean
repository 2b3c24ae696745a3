/- Rooms (chapter 11): IsRoom of both, and rooms of the laws. -/
import Derived.Test.YtcangdcakgcpaaaRmB
import Derived.Test.YtcangdcakgcpaaaKit
import Derived.Test.YtcangdcakgcpaaaNum
import Derived.Laws.EntriesVeiled
namespace Go.Proofs.Ytcangdcakgcpaaa.Rmx
open Go.ChangeShapes Go.WideShapes Go.ChangeAt Go.RowKit
open Go.Proofs.Ytcangdcakgcpaaa.Num Go.Proofs.Ytcangdcakgcpaaa.Kit Go.Proofs.Ytcangdcakgcpaaa.RmT
set_option linter.unusedVariables false
set_option linter.unusedSimpArgs false

abbrev Rm (k r : Int) : Value := .agg #[.int .i64 k, .int .i64 r]
theorem rm_key (k r : Int) : ((r = 2 ∨ r = 3) ∧ rmB k r = (k == 1 || k == 2)) ∨ ((r = 0 ∨ r = 1 ∨ r = 4) ∧ rmB k r = (k == 0)) ∨ ((r == 0) = false ∧ (r == 1) = false ∧ (r == 2) = false ∧ (r == 3) = false ∧ (r == 4) = false ∧ rmB k r = false) := by
  by_cases h2 : r = 2
  · subst h2; exact .inl ⟨.inl rfl, rfl⟩
  by_cases h3 : r = 3
  · subst h3; exact .inl ⟨.inr rfl, rfl⟩
  by_cases h0 : r = 0
  · subst h0; exact .inr (.inl ⟨.inl rfl, rfl⟩)
  by_cases h1 : r = 1
  · subst h1; exact .inr (.inl ⟨.inr (.inl rfl), rfl⟩)
  by_cases h4 : r = 4
  · subst h4; exact .inr (.inl ⟨.inr (.inr rfl), rfl⟩)
  refine .inr (.inr ⟨beq_eq_false_iff_ne.2 h0, beq_eq_false_iff_ne.2 h1, beq_eq_false_iff_ne.2 h2, beq_eq_false_iff_ne.2 h3, beq_eq_false_iff_ne.2 h4, ?_⟩)
  unfold rmB
  rw [beq_eq_false_iff_ne.2 h0, beq_eq_false_iff_ne.2 h1, beq_eq_false_iff_ne.2 h2, beq_eq_false_iff_ne.2 h3, beq_eq_false_iff_ne.2 h4]
  rfl
theorem roomValid_any (k r : Int) (w : World) : Calls Try.prog 64 #[Rm k r] w fun e w' => e = .returned (.bool (rmB k r)) ∧ Ext w w' := by
  rcases rm_key k r with ⟨rfl | rfl, HB⟩ | ⟨rfl | rfl | rfl, HB⟩ | ⟨n0, n1, n2, n3, n4, HB⟩
  · cases h1 : (k == 1) <;> cases h2 : (k == 2)
    all_goals
      have H := Lib.hid (HB.trans (by rw [h1, h2]))
      clear HB
      go_enter Try.func64, Try.ntmps64
      go_wp2
      go_ret
      exact ⟨ret_bool H.out, (by repeat (first | exact Ext.refl _ | assumption | apply Ext.alloc | apply Ext.drew | (refine Ext.trans ?_ (by assumption)) | (refine Ext.setNew ?_ (by simp <;> omega) _)))⟩
  · cases h1 : (k == 1) <;> cases h2 : (k == 2)
    all_goals
      have H := Lib.hid (HB.trans (by rw [h1, h2]))
      clear HB
      go_enter Try.func64, Try.ntmps64
      go_wp2
      go_ret
      exact ⟨ret_bool H.out, (by repeat (first | exact Ext.refl _ | assumption | apply Ext.alloc | apply Ext.drew | (refine Ext.trans ?_ (by assumption)) | (refine Ext.setNew ?_ (by simp <;> omega) _)))⟩
  · have H := Lib.hid HB
    clear HB
    go_enter Try.func64, Try.ntmps64
    go_wp2
    go_ret
    exact ⟨ret_bool H.out, (by repeat (first | exact Ext.refl _ | assumption | apply Ext.alloc | apply Ext.drew | (refine Ext.trans ?_ (by assumption)) | (refine Ext.setNew ?_ (by simp <;> omega) _)))⟩
  · have H := Lib.hid HB
    clear HB
    go_enter Try.func64, Try.ntmps64
    go_wp2
    go_ret
    exact ⟨ret_bool H.out, (by repeat (first | exact Ext.refl _ | assumption | apply Ext.alloc | apply Ext.drew | (refine Ext.trans ?_ (by assumption)) | (refine Ext.setNew ?_ (by simp <;> omega) _)))⟩
  · have H := Lib.hid HB
    clear HB
    go_enter Try.func64, Try.ntmps64
    go_wp2
    go_ret
    exact ⟨ret_bool H.out, (by repeat (first | exact Ext.refl _ | assumption | apply Ext.alloc | apply Ext.drew | (refine Ext.trans ?_ (by assumption)) | (refine Ext.setNew ?_ (by simp <;> omega) _)))⟩
  · have H := Lib.hid HB
    clear HB
    go_enter Try.func64, Try.ntmps64
    go_wp2
    go_ret
    exact ⟨ret_bool H.out, (by repeat (first | exact Ext.refl _ | assumption | apply Ext.alloc | apply Ext.drew | (refine Ext.trans ?_ (by assumption)) | (refine Ext.setNew ?_ (by simp <;> omega) _)))⟩
theorem isRoom_spec (k r : Int) (w : World) : Calls Try.prog 40 #[Rm k r] w fun e w' => e = .returned (.bool (rmB k r)) ∧ Ext w w' := by
  rcases rm_key k r with ⟨rfl | rfl, HB⟩ | ⟨rfl | rfl | rfl, HB⟩ | ⟨n0, n1, n2, n3, n4, HB⟩
  · cases h1 : (k == 1) <;> cases h2 : (k == 2)
    all_goals
      have H := Lib.hid (HB.trans (by rw [h1, h2]))
      clear HB
      go_enter Try.func40, Try.ntmps40
      go_wp2
      go_ret
      exact ⟨ret_bool H.out, (by repeat (first | exact Ext.refl _ | assumption | apply Ext.alloc | apply Ext.drew | (refine Ext.trans ?_ (by assumption)) | (refine Ext.setNew ?_ (by simp <;> omega) _)))⟩
  · cases h1 : (k == 1) <;> cases h2 : (k == 2)
    all_goals
      have H := Lib.hid (HB.trans (by rw [h1, h2]))
      clear HB
      go_enter Try.func40, Try.ntmps40
      go_wp2
      go_ret
      exact ⟨ret_bool H.out, (by repeat (first | exact Ext.refl _ | assumption | apply Ext.alloc | apply Ext.drew | (refine Ext.trans ?_ (by assumption)) | (refine Ext.setNew ?_ (by simp <;> omega) _)))⟩
  · have H := Lib.hid HB
    clear HB
    go_enter Try.func40, Try.ntmps40
    go_wp2
    go_ret
    exact ⟨ret_bool H.out, (by repeat (first | exact Ext.refl _ | assumption | apply Ext.alloc | apply Ext.drew | (refine Ext.trans ?_ (by assumption)) | (refine Ext.setNew ?_ (by simp <;> omega) _)))⟩
  · have H := Lib.hid HB
    clear HB
    go_enter Try.func40, Try.ntmps40
    go_wp2
    go_ret
    exact ⟨ret_bool H.out, (by repeat (first | exact Ext.refl _ | assumption | apply Ext.alloc | apply Ext.drew | (refine Ext.trans ?_ (by assumption)) | (refine Ext.setNew ?_ (by simp <;> omega) _)))⟩
  · have H := Lib.hid HB
    clear HB
    go_enter Try.func40, Try.ntmps40
    go_wp2
    go_ret
    exact ⟨ret_bool H.out, (by repeat (first | exact Ext.refl _ | assumption | apply Ext.alloc | apply Ext.drew | (refine Ext.trans ?_ (by assumption)) | (refine Ext.setNew ?_ (by simp <;> omega) _)))⟩
  · have H := Lib.hid HB
    clear HB
    go_enter Try.func40, Try.ntmps40
    go_wp2
    go_ret
    exact ⟨ret_bool H.out, (by repeat (first | exact Ext.refl _ | assumption | apply Ext.alloc | apply Ext.drew | (refine Ext.trans ?_ (by assumption)) | (refine Ext.setNew ?_ (by simp <;> omega) _)))⟩

theorem isRoom_impl (k r : Int) (w : World) : Calls Try.prog 22 #[Rm k r] w fun e w' => e = .returned (.bool (rmB k r)) ∧ Ext w w' := by
  go_enter Try.func22, Try.ntmps22
  go_wp2_with (go_at_call 64; refine (roomValid_any _ _ _).mono ?_; rintro e w1 ⟨rfl, hx⟩)
  go_ret
  exact ⟨rfl, (by repeat (first | exact Ext.refl _ | assumption | apply Ext.alloc | apply Ext.drew | (refine Ext.trans ?_ (by assumption)) | (refine Ext.setNew ?_ (by simp <;> omega) _)))⟩
theorem toRoom_any (k r : Int) (w : World) : Calls Try.prog 41 #[Rm k r] w fun e w' => e = .returned (Rm k r) ∧ Ext w w' := by
  go_enter Try.func41, Try.ntmps41
  go_wp2
  exact bodyPost_ret (v := Rm k r) (by simp [results, Try.results41, go_sem]) rfl ⟨rfl, (by repeat (first | exact Ext.refl _ | assumption | apply Ext.alloc | apply Ext.drew | (refine Ext.trans ?_ (by assumption)) | (refine Ext.setNew ?_ (by simp <;> omega) _)))⟩
theorem eqRoom_same (k r : Int) (w : World) : Calls Try.prog 44 #[Rm k r, Rm k r] w fun e w' => e = .returned (.bool true) ∧ Ext w w' := by
  go_enter Try.func44, Try.ntmps44
  go_wp2
  go_ret
  exact ⟨rfl, (by repeat (first | exact Ext.refl _ | assumption | apply Ext.alloc | apply Ext.drew | (refine Ext.trans ?_ (by assumption)) | (refine Ext.setNew ?_ (by simp <;> omega) _)))⟩

end Go.Proofs.Ytcangdcakgcpaaa.Rmx
