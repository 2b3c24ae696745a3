import Derived.Test.YtmlojndkpnhalaaGreatMPts
namespace Go.Proofs.YtmlojndkpnhalaaGreat.Wnd
open Go.ChangeShapes Go.WideShapes Go.ChangeAt Go.RowKit
open Go.Proofs.YtmlojndkpnhalaaGreat.Num Go.Proofs.YtmlojndkpnhalaaGreat.Kit Go.Proofs.YtmlojndkpnhalaaGreat.Pts Go.Proofs.YtmlojndkpnhalaaGreat.Seg Go.Proofs.YtmlojndkpnhalaaGreat.Gcd
set_option linter.unusedVariables false
set_option linter.unusedSimpArgs false
def wdB (x y : Int) : Bool := inB x (-1000) 1000 && (inB y (-1000) 1000 && !(x == 0 && y == 0))
def hdB (x y : Int) : Bool := inB x (-2000000) 2000000 && (inB y (-2000000) 2000000 && !(x == 0 && y == 0))
theorem wdB_yes {x y : Int} (h : wdB x y = true) : (-1000 ≤ x ∧ x ≤ 1000) ∧ (-1000 ≤ y ∧ y ≤ 1000) ∧ ¬ (x = 0 ∧ y = 0) := by
  unfold wdB at h
  rw [Bool.and_eq_true, Bool.and_eq_true] at h
  refine ⟨of_inB h.1, of_inB h.2.1, ?_⟩
  rintro ⟨rfl, rfl⟩; simp at h
theorem hdB_yes {x y : Int} (h : hdB x y = true) : (-2000000 ≤ x ∧ x ≤ 2000000) ∧ (-2000000 ≤ y ∧ y ≤ 2000000) ∧ ¬ (x = 0 ∧ y = 0) := by
  unfold hdB at h
  rw [Bool.and_eq_true, Bool.and_eq_true] at h
  refine ⟨of_inB h.1, of_inB h.2.1, ?_⟩
  rintro ⟨rfl, rfl⟩; simp at h
theorem isWindCoord_any (n : Int) (w : World) : Calls Tryz.prog 167 #[.int .i64 n] w fun e w' => e = .returned (.bool (inB n (-1000) 1000)) ∧ w = w' := by
  by_cases h1 : -1000 ≤ n
  · by_cases h2 : n ≤ 1000
    · have H := Lib.hid (inB_yes h1 h2)
      go_enter Tryz.func167, Tryz.ntmps167
      go_wp2
      go_ret
      exact ⟨ret_bool H.out, rfl⟩
    · have H := Lib.hid (inB_no (n := n) (lo := -1000) (hi := 1000) (fun h => h2 h.2))
      go_enter Tryz.func167, Tryz.ntmps167
      go_wp2
      go_ret
      exact ⟨ret_bool H.out, rfl⟩
  · have H := Lib.hid (inB_no (n := n) (lo := -1000) (hi := 1000) (fun h => h1 h.1))
    go_enter Tryz.func167, Tryz.ntmps167
    go_wp2
    go_ret
    exact ⟨ret_bool H.out, rfl⟩
theorem isHeadingCoord_any (n : Int) (w : World) : Calls Tryz.prog 224 #[.int .i64 n] w fun e w' => e = .returned (.bool (inB n (-2000000) 2000000)) ∧ w = w' := by
  by_cases h1 : -2000000 ≤ n
  · by_cases h2 : n ≤ 2000000
    · have H := Lib.hid (inB_yes h1 h2)
      go_enter Tryz.func224, Tryz.ntmps224
      go_wp2
      go_ret
      exact ⟨ret_bool H.out, rfl⟩
    · have H := Lib.hid (inB_no (n := n) (lo := -2000000) (hi := 2000000) (fun h => h2 h.2))
      go_enter Tryz.func224, Tryz.ntmps224
      go_wp2
      go_ret
      exact ⟨ret_bool H.out, rfl⟩
  · have H := Lib.hid (inB_no (n := n) (lo := -2000000) (hi := 2000000) (fun h => h1 h.1))
    go_enter Tryz.func224, Tryz.ntmps224
    go_wp2
    go_ret
    exact ⟨ret_bool H.out, rfl⟩
theorem windValid_any (x y : Int) (w : World) : Calls Tryz.prog 92 #[Pt x y] w fun e w' => e = .returned (.bool (wdB x y)) ∧ Ext w w' := by
  cases h1 : inB x (-1000) 1000
  · have H := Lib.hid (show wdB x y = false by unfold wdB; rw [h1]; rfl)
    go_enter Tryz.func92, Tryz.ntmps92
    go_wp2_with (go_at_call 167; refine (isWindCoord_any _ _).mono ?_; rintro e w1 ⟨rfl, rfl⟩)
    go_ret
    exact ⟨ret_bool H.out, (by repeat (first | exact Ext.refl _ | assumption | apply Ext.alloc | apply Ext.drew | (refine Ext.trans ?_ (by assumption)) | (refine Ext.setNew ?_ (by simp <;> omega) _)))⟩
  cases h2 : inB y (-1000) 1000
  · have H := Lib.hid (show wdB x y = false by unfold wdB; rw [h1, h2]; rfl)
    go_enter Tryz.func92, Tryz.ntmps92
    go_wp2_with (go_at_call 167; refine (isWindCoord_any _ _).mono ?_; rintro e w1 ⟨rfl, rfl⟩)
    go_ret
    exact ⟨ret_bool H.out, (by repeat (first | exact Ext.refl _ | assumption | apply Ext.alloc | apply Ext.drew | (refine Ext.trans ?_ (by assumption)) | (refine Ext.setNew ?_ (by simp <;> omega) _)))⟩
  cases h3 : (x == 0)
  · have H := Lib.hid (show wdB x y = true by unfold wdB; rw [h1, h2, h3]; rfl)
    go_enter Tryz.func92, Tryz.ntmps92
    go_wp2_with (go_at_call 167; refine (isWindCoord_any _ _).mono ?_; rintro e w1 ⟨rfl, rfl⟩)
    go_ret
    exact ⟨ret_bool H.out, (by repeat (first | exact Ext.refl _ | assumption | apply Ext.alloc | apply Ext.drew | (refine Ext.trans ?_ (by assumption)) | (refine Ext.setNew ?_ (by simp <;> omega) _)))⟩
  cases h4 : (y == 0)
  · have H := Lib.hid (show wdB x y = true by unfold wdB; rw [h1, h2, h3, h4]; rfl)
    go_enter Tryz.func92, Tryz.ntmps92
    go_wp2_with (go_at_call 167; refine (isWindCoord_any _ _).mono ?_; rintro e w1 ⟨rfl, rfl⟩)
    go_ret
    exact ⟨ret_bool H.out, (by repeat (first | exact Ext.refl _ | assumption | apply Ext.alloc | apply Ext.drew | (refine Ext.trans ?_ (by assumption)) | (refine Ext.setNew ?_ (by simp <;> omega) _)))⟩
  · have H := Lib.hid (show wdB x y = false by unfold wdB; rw [h1, h2, h3, h4]; rfl)
    go_enter Tryz.func92, Tryz.ntmps92
    go_wp2_with (go_at_call 167; refine (isWindCoord_any _ _).mono ?_; rintro e w1 ⟨rfl, rfl⟩)
    go_ret
    exact ⟨ret_bool H.out, (by repeat (first | exact Ext.refl _ | assumption | apply Ext.alloc | apply Ext.drew | (refine Ext.trans ?_ (by assumption)) | (refine Ext.setNew ?_ (by simp <;> omega) _)))⟩
theorem isWind_spec (x y : Int) (w : World) : Calls Tryz.prog 183 #[Pt x y] w fun e w' => e = .returned (.bool (wdB x y)) ∧ Ext w w' := by
  cases h1 : inB x (-1000) 1000
  · have H := Lib.hid (show wdB x y = false by unfold wdB; rw [h1]; rfl)
    go_enter Tryz.func183, Tryz.ntmps183
    go_wp2_with (go_at_call 82; refine (in_any _ _ _ _).mono ?_; rintro e w1 ⟨rfl, rfl⟩)
    go_ret
    exact ⟨ret_bool H.out, (by repeat (first | exact Ext.refl _ | assumption | apply Ext.alloc | apply Ext.drew | (refine Ext.trans ?_ (by assumption)) | (refine Ext.setNew ?_ (by simp <;> omega) _)))⟩
  cases h2 : inB y (-1000) 1000
  · have H := Lib.hid (show wdB x y = false by unfold wdB; rw [h1, h2]; rfl)
    go_enter Tryz.func183, Tryz.ntmps183
    go_wp2_with (go_at_call 82; refine (in_any _ _ _ _).mono ?_; rintro e w1 ⟨rfl, rfl⟩)
    go_ret
    exact ⟨ret_bool H.out, (by repeat (first | exact Ext.refl _ | assumption | apply Ext.alloc | apply Ext.drew | (refine Ext.trans ?_ (by assumption)) | (refine Ext.setNew ?_ (by simp <;> omega) _)))⟩
  cases h3 : (x == 0)
  · have H := Lib.hid (show wdB x y = true by unfold wdB; rw [h1, h2, h3]; rfl)
    go_enter Tryz.func183, Tryz.ntmps183
    go_wp2_with (go_at_call 82; refine (in_any _ _ _ _).mono ?_; rintro e w1 ⟨rfl, rfl⟩)
    go_ret
    exact ⟨ret_bool H.out, (by repeat (first | exact Ext.refl _ | assumption | apply Ext.alloc | apply Ext.drew | (refine Ext.trans ?_ (by assumption)) | (refine Ext.setNew ?_ (by simp <;> omega) _)))⟩
  cases h4 : (y == 0)
  · have H := Lib.hid (show wdB x y = true by unfold wdB; rw [h1, h2, h3, h4]; rfl)
    go_enter Tryz.func183, Tryz.ntmps183
    go_wp2_with (go_at_call 82; refine (in_any _ _ _ _).mono ?_; rintro e w1 ⟨rfl, rfl⟩)
    go_ret
    exact ⟨ret_bool H.out, (by repeat (first | exact Ext.refl _ | assumption | apply Ext.alloc | apply Ext.drew | (refine Ext.trans ?_ (by assumption)) | (refine Ext.setNew ?_ (by simp <;> omega) _)))⟩
  · have H := Lib.hid (show wdB x y = false by unfold wdB; rw [h1, h2, h3, h4]; rfl)
    go_enter Tryz.func183, Tryz.ntmps183
    go_wp2_with (go_at_call 82; refine (in_any _ _ _ _).mono ?_; rintro e w1 ⟨rfl, rfl⟩)
    go_ret
    exact ⟨ret_bool H.out, (by repeat (first | exact Ext.refl _ | assumption | apply Ext.alloc | apply Ext.drew | (refine Ext.trans ?_ (by assumption)) | (refine Ext.setNew ?_ (by simp <;> omega) _)))⟩
theorem isHeading_any (x y : Int) (w : World) : Calls Tryz.prog 169 #[Pt x y] w fun e w' => e = .returned (.bool (hdB x y)) ∧ Ext w w' := by
  cases h1 : inB x (-2000000) 2000000
  · have H := Lib.hid (show hdB x y = false by unfold hdB; rw [h1]; rfl)
    go_enter Tryz.func169, Tryz.ntmps169
    go_wp2_with (go_at_call 224; refine (isHeadingCoord_any _ _).mono ?_; rintro e w1 ⟨rfl, rfl⟩)
    go_ret
    exact ⟨ret_bool H.out, (by repeat (first | exact Ext.refl _ | assumption | apply Ext.alloc | apply Ext.drew | (refine Ext.trans ?_ (by assumption)) | (refine Ext.setNew ?_ (by simp <;> omega) _)))⟩
  cases h2 : inB y (-2000000) 2000000
  · have H := Lib.hid (show hdB x y = false by unfold hdB; rw [h1, h2]; rfl)
    go_enter Tryz.func169, Tryz.ntmps169
    go_wp2_with (go_at_call 224; refine (isHeadingCoord_any _ _).mono ?_; rintro e w1 ⟨rfl, rfl⟩)
    go_ret
    exact ⟨ret_bool H.out, (by repeat (first | exact Ext.refl _ | assumption | apply Ext.alloc | apply Ext.drew | (refine Ext.trans ?_ (by assumption)) | (refine Ext.setNew ?_ (by simp <;> omega) _)))⟩
  cases h3 : (x == 0)
  · have H := Lib.hid (show hdB x y = true by unfold hdB; rw [h1, h2, h3]; rfl)
    go_enter Tryz.func169, Tryz.ntmps169
    go_wp2_with (go_at_call 224; refine (isHeadingCoord_any _ _).mono ?_; rintro e w1 ⟨rfl, rfl⟩)
    go_ret
    exact ⟨ret_bool H.out, (by repeat (first | exact Ext.refl _ | assumption | apply Ext.alloc | apply Ext.drew | (refine Ext.trans ?_ (by assumption)) | (refine Ext.setNew ?_ (by simp <;> omega) _)))⟩
  cases h4 : (y == 0)
  · have H := Lib.hid (show hdB x y = true by unfold hdB; rw [h1, h2, h3, h4]; rfl)
    go_enter Tryz.func169, Tryz.ntmps169
    go_wp2_with (go_at_call 224; refine (isHeadingCoord_any _ _).mono ?_; rintro e w1 ⟨rfl, rfl⟩)
    go_ret
    exact ⟨ret_bool H.out, (by repeat (first | exact Ext.refl _ | assumption | apply Ext.alloc | apply Ext.drew | (refine Ext.trans ?_ (by assumption)) | (refine Ext.setNew ?_ (by simp <;> omega) _)))⟩
  · have H := Lib.hid (show hdB x y = false by unfold hdB; rw [h1, h2, h3, h4]; rfl)
    go_enter Tryz.func169, Tryz.ntmps169
    go_wp2_with (go_at_call 224; refine (isHeadingCoord_any _ _).mono ?_; rintro e w1 ⟨rfl, rfl⟩)
    go_ret
    exact ⟨ret_bool H.out, (by repeat (first | exact Ext.refl _ | assumption | apply Ext.alloc | apply Ext.drew | (refine Ext.trans ?_ (by assumption)) | (refine Ext.setNew ?_ (by simp <;> omega) _)))⟩
theorem vectorS_any (x y : Int) (w : World) : Calls Tryz.prog 216 #[Pt x y] w fun e w' => e = .returned (Pt x y) ∧ Ext w w' := by
  go_enter Tryz.func216, Tryz.ntmps216
  go_wp2
  exact bodyPost_ret (v := Pt x y) (by simp [results, Tryz.results216, go_sem]) rfl ⟨rfl, (by repeat (first | exact Ext.refl _ | assumption | apply Ext.alloc | apply Ext.drew | (refine Ext.trans ?_ (by assumption)) | (refine Ext.setNew ?_ (by simp <;> omega) _)))⟩
theorem toWind_any (x y : Int) (w : World) : Calls Tryz.prog 50 #[Pt x y] w fun e w' => e = .returned (Pt x y) ∧ Ext w w' := by
  go_enter Tryz.func50, Tryz.ntmps50
  go_wp2
  exact bodyPost_ret (v := Pt x y) (by simp [results, Tryz.results50, go_sem]) rfl ⟨rfl, (by repeat (first | exact Ext.refl _ | assumption | apply Ext.alloc | apply Ext.drew | (refine Ext.trans ?_ (by assumption)) | (refine Ext.setNew ?_ (by simp <;> omega) _)))⟩
theorem across_any (x y u v : Int) (w : World) (hx : -1000 ≤ x ∧ x ≤ 1000) (hy : -1000 ≤ y ∧ y ≤ 1000) (hu : -2000000 ≤ u ∧ u ≤ 2000000) (hv : -2000000 ≤ v ∧ v ≤ 2000000) :
    Calls Tryz.prog 308 #[Pt x y, Pt u v] w fun e w' => e = .returned (.int .i64 (u * y - v * x)) ∧ Ext w w' := by
  go_enter Tryz.func308, Tryz.ntmps308
  go_wp2_with (go_at_call 302; refine (cross_any _ _ _ _ _ (by omega) (by omega) (by omega) (by omega)).mono ?_; rintro e w1 ⟨rfl, hx⟩)
  go_ret
  exact ⟨rfl, (by repeat (first | exact Ext.refl _ | assumption | apply Ext.alloc | apply Ext.drew | (refine Ext.trans ?_ (by assumption)) | (refine Ext.setNew ?_ (by simp <;> omega) _)))⟩
theorem along_any (x y u v : Int) (w : World) (hx : -1000 ≤ x ∧ x ≤ 1000) (hy : -1000 ≤ y ∧ y ≤ 1000) (hu : -2000000 ≤ u ∧ u ≤ 2000000) (hv : -2000000 ≤ v ∧ v ≤ 2000000) :
    Calls Tryz.prog 311 #[Pt x y, Pt u v] w fun e w' => e = .returned (.int .i64 (u * x + v * y)) ∧ Ext w w' := by
  go_enter Tryz.func311, Tryz.ntmps311
  go_wp2_with (go_at_call 301; refine (dotI_any _ _ _ _ _ (by omega) (by omega) (by omega) (by omega)).mono ?_; rintro e w1 ⟨rfl, hx⟩)
  go_ret
  exact ⟨rfl, (by repeat (first | exact Ext.refl _ | assumption | apply Ext.alloc | apply Ext.drew | (refine Ext.trans ?_ (by assumption)) | (refine Ext.setNew ?_ (by simp <;> omega) _)))⟩
theorem prod_bd {x y u v : Int} (hx : -1000 ≤ x ∧ x ≤ 1000) (hy : -1000 ≤ y ∧ y ≤ 1000) (hu : -2000000 ≤ u ∧ u ≤ 2000000) (hv : -2000000 ≤ v ∧ v ≤ 2000000) :
    (-4000000000 ≤ u * x + v * y ∧ u * x + v * y ≤ 4000000000) ∧ -4000000000 ≤ u * y - v * x ∧ u * y - v * x ≤ 4000000000 := by
  have a := mul_bd 2000000 1000 hu hx
  have b := mul_bd 2000000 1000 hv hy
  have c := mul_bd 2000000 1000 hu hy
  have d := mul_bd 2000000 1000 hv hx
  simp only [Int.reduceMul, Int.reduceNeg] at a b c d
  omega
def tkN (c : Int) : Int := if c < 0 then 1 else if 0 < c then 2 else 0
end Go.Proofs.YtmlojndkpnhalaaGreat.Wnd
