/- Watches (chapter 12): is a watch valid (both), watches of the laws. -/
import Derived.Test.YtknelhceaoblhaaIpd
import Derived.Test.YtknelhceaoblhaaCel
namespace Go.Proofs.Ytknelhceaoblhaa.Wch
open Go.ChangeShapes Go.WideShapes Go.ChangeAt Go.RowKit
open Go.Proofs.Ytknelhceaoblhaa.Num Go.Proofs.Ytknelhceaoblhaa.Kit Go.Proofs.Ytknelhceaoblhaa.Pts
set_option linter.unusedVariables false
set_option linter.unusedSimpArgs false

abbrev Wt (l s d p : Int) : Value := .agg #[.int .i64 l, .int .i64 s, .int .i64 d, .int .i64 p]
/-- Is a watch valid? -/
def wtB (l s d p : Int) : Bool := inB l 1 1000 && (inB s 0 60000 && (inB d 0 10000 && inB p 1 60000))
theorem wt_no1 {l s d p : Int} (h : inB l 1 1000 = false) : wtB l s d p = false := by unfold wtB; rw [h]; rfl
theorem wt_no2 {l s d p : Int} (h : inB s 0 60000 = false) : wtB l s d p = false := by unfold wtB; rw [h]; simp
theorem wt_no3 {l s d p : Int} (h : inB d 0 10000 = false) : wtB l s d p = false := by unfold wtB; rw [h]; simp
theorem wt_no4 {l s d p : Int} (h : inB p 1 60000 = false) : wtB l s d p = false := by unfold wtB; rw [h]; simp
theorem wt_all {l s d p : Int} (h1 : inB l 1 1000 = true) (h2 : inB s 0 60000 = true) (h3 : inB d 0 10000 = true) (h4 : inB p 1 60000 = true) : wtB l s d p = true := by unfold wtB; rw [h1, h2, h3, h4]; rfl
theorem wt_yes {l s d p : Int} (h : wtB l s d p = true) : (1 ≤ l ∧ l ≤ 1000) ∧ (0 ≤ s ∧ s ≤ 60000) ∧ (0 ≤ d ∧ d ≤ 10000) ∧ 1 ≤ p ∧ p ≤ 60000 := by
  unfold wtB at h
  simp only [Bool.and_eq_true] at h
  exact ⟨of_inB h.1, of_inB h.2.1, of_inB h.2.2.1, of_inB h.2.2.2⟩

theorem spanW_any (n : Int) (w : World) : Calls Try.prog 37 #[.int .i64 n] w fun e w' => e = .returned (.bool (inB n 0 60000)) ∧ w = w' := by
  by_cases h1 : 0 ≤ n
  · by_cases h2 : n ≤ 60000
    · have H := Lib.hid (inB_yes h1 h2)
      go_enter Try.func37, Try.ntmps37
      go_wp2
      go_ret
      exact ⟨ret_bool H.out, rfl⟩
    · have H := Lib.hid (inB_no (n := n) (lo := 0) (hi := 60000) (fun h => h2 h.2))
      go_enter Try.func37, Try.ntmps37
      go_wp2
      go_ret
      exact ⟨ret_bool H.out, rfl⟩
  · have H := Lib.hid (inB_no (n := n) (lo := 0) (hi := 60000) (fun h => h1 h.1))
    go_enter Try.func37, Try.ntmps37
    go_wp2
    go_ret
    exact ⟨ret_bool H.out, rfl⟩

set_option maxHeartbeats 1000000 in
theorem watchValid_any (l s d p : Int) (w : World) : Calls Try.prog 25 #[Wt l s d p] w fun e w' => e = .returned (.bool (wtB l s d p)) ∧ Ext w w' := by
  cases h1 : inB l 1 1000
  · have H := Lib.hid (wt_no1 (s := s) (d := d) (p := p) h1)
    go_enter Try.func25, Try.ntmps25
    go_wp2_with (first | (go_at_call 36; refine (isHullLength_any _ _).mono ?_; rintro e w1 ⟨rfl, rfl⟩) | (go_at_call 37; refine (spanW_any _ _).mono ?_; rintro e w1 ⟨rfl, rfl⟩))
    go_ret
    exact ⟨ret_bool H.out, (by repeat (first | exact Ext.refl _ | assumption | apply Ext.alloc | apply Ext.drew | (refine Ext.trans ?_ (by assumption)) | (refine Ext.setNew ?_ (by simp <;> omega) _)))⟩
  cases h2 : inB s 0 60000
  · have H := Lib.hid (wt_no2 (l := l) (d := d) (p := p) h2)
    go_enter Try.func25, Try.ntmps25
    go_wp2_with (first | (go_at_call 36; refine (isHullLength_any _ _).mono ?_; rintro e w1 ⟨rfl, rfl⟩) | (go_at_call 37; refine (spanW_any _ _).mono ?_; rintro e w1 ⟨rfl, rfl⟩))
    go_ret
    exact ⟨ret_bool H.out, (by repeat (first | exact Ext.refl _ | assumption | apply Ext.alloc | apply Ext.drew | (refine Ext.trans ?_ (by assumption)) | (refine Ext.setNew ?_ (by simp <;> omega) _)))⟩
  by_cases a1 : 0 ≤ d
  rotate_left
  · have H := Lib.hid (wt_no3 (l := l) (s := s) (p := p) (inB_no (n := d) (lo := 0) (hi := 10000) (fun h => a1 h.1)))
    go_enter Try.func25, Try.ntmps25
    go_wp2_with (first | (go_at_call 36; refine (isHullLength_any _ _).mono ?_; rintro e w1 ⟨rfl, rfl⟩) | (go_at_call 37; refine (spanW_any _ _).mono ?_; rintro e w1 ⟨rfl, rfl⟩))
    go_ret
    exact ⟨ret_bool H.out, (by repeat (first | exact Ext.refl _ | assumption | apply Ext.alloc | apply Ext.drew | (refine Ext.trans ?_ (by assumption)) | (refine Ext.setNew ?_ (by simp <;> omega) _)))⟩
  by_cases a2 : d ≤ 10000
  rotate_left
  · have H := Lib.hid (wt_no3 (l := l) (s := s) (p := p) (inB_no (n := d) (lo := 0) (hi := 10000) (fun h => a2 h.2)))
    go_enter Try.func25, Try.ntmps25
    go_wp2_with (first | (go_at_call 36; refine (isHullLength_any _ _).mono ?_; rintro e w1 ⟨rfl, rfl⟩) | (go_at_call 37; refine (spanW_any _ _).mono ?_; rintro e w1 ⟨rfl, rfl⟩))
    go_ret
    exact ⟨ret_bool H.out, (by repeat (first | exact Ext.refl _ | assumption | apply Ext.alloc | apply Ext.drew | (refine Ext.trans ?_ (by assumption)) | (refine Ext.setNew ?_ (by simp <;> omega) _)))⟩
  by_cases a3 : 1 ≤ p
  rotate_left
  · have H := Lib.hid (wt_no4 (l := l) (s := s) (d := d) (inB_no (n := p) (lo := 1) (hi := 60000) (fun h => a3 h.1)))
    go_enter Try.func25, Try.ntmps25
    go_wp2_with (first | (go_at_call 36; refine (isHullLength_any _ _).mono ?_; rintro e w1 ⟨rfl, rfl⟩) | (go_at_call 37; refine (spanW_any _ _).mono ?_; rintro e w1 ⟨rfl, rfl⟩))
    go_ret
    exact ⟨ret_bool H.out, (by repeat (first | exact Ext.refl _ | assumption | apply Ext.alloc | apply Ext.drew | (refine Ext.trans ?_ (by assumption)) | (refine Ext.setNew ?_ (by simp <;> omega) _)))⟩
  by_cases a4 : p ≤ 60000
  · have H := Lib.hid (wt_all h1 h2 (inB_yes a1 a2) (inB_yes a3 a4))
    go_enter Try.func25, Try.ntmps25
    go_wp2_with (first | (go_at_call 36; refine (isHullLength_any _ _).mono ?_; rintro e w1 ⟨rfl, rfl⟩) | (go_at_call 37; refine (spanW_any _ _).mono ?_; rintro e w1 ⟨rfl, rfl⟩))
    go_ret
    exact ⟨ret_bool H.out, (by repeat (first | exact Ext.refl _ | assumption | apply Ext.alloc | apply Ext.drew | (refine Ext.trans ?_ (by assumption)) | (refine Ext.setNew ?_ (by simp <;> omega) _)))⟩
  · have H := Lib.hid (wt_no4 (l := l) (s := s) (d := d) (inB_no (n := p) (lo := 1) (hi := 60000) (fun h => a4 h.2)))
    have b4 : decide (p ≤ 60000) = false := decide_eq_false a4
    go_enter Try.func25, Try.ntmps25
    go_wp2_with (first | (go_at_call 36; refine (isHullLength_any _ _).mono ?_; rintro e w1 ⟨rfl, rfl⟩) | (go_at_call 37; refine (spanW_any _ _).mono ?_; rintro e w1 ⟨rfl, rfl⟩))
    go_ret
    exact ⟨ret_bool H.out, (by repeat (first | exact Ext.refl _ | assumption | apply Ext.alloc | apply Ext.drew | (refine Ext.trans ?_ (by assumption)) | (refine Ext.setNew ?_ (by simp <;> omega) _)))⟩

theorem isWatch_spec (l s d p : Int) (w : World) : Calls Try.prog 6 #[Wt l s d p] w fun e w' => e = .returned (.bool (wtB l s d p)) ∧ Ext w w' := by
  cases h1 : inB l 1 1000
  · have H := Lib.hid (wt_no1 (s := s) (d := d) (p := p) h1)
    go_enter Try.func6, Try.ntmps6
    go_wp2_with (go_at_call 24; refine (in_any _ _ _ _).mono ?_; rintro e w1 ⟨rfl, rfl⟩)
    go_ret
    exact ⟨ret_bool H.out, (by repeat (first | exact Ext.refl _ | assumption | apply Ext.alloc | apply Ext.drew | (refine Ext.trans ?_ (by assumption)) | (refine Ext.setNew ?_ (by simp <;> omega) _)))⟩
  cases h2 : inB s 0 60000
  · have H := Lib.hid (wt_no2 (l := l) (d := d) (p := p) h2)
    go_enter Try.func6, Try.ntmps6
    go_wp2_with (go_at_call 24; refine (in_any _ _ _ _).mono ?_; rintro e w1 ⟨rfl, rfl⟩)
    go_ret
    exact ⟨ret_bool H.out, (by repeat (first | exact Ext.refl _ | assumption | apply Ext.alloc | apply Ext.drew | (refine Ext.trans ?_ (by assumption)) | (refine Ext.setNew ?_ (by simp <;> omega) _)))⟩
  cases h3 : inB d 0 10000
  · have H := Lib.hid (wt_no3 (l := l) (s := s) (p := p) h3)
    go_enter Try.func6, Try.ntmps6
    go_wp2_with (go_at_call 24; refine (in_any _ _ _ _).mono ?_; rintro e w1 ⟨rfl, rfl⟩)
    go_ret
    exact ⟨ret_bool H.out, (by repeat (first | exact Ext.refl _ | assumption | apply Ext.alloc | apply Ext.drew | (refine Ext.trans ?_ (by assumption)) | (refine Ext.setNew ?_ (by simp <;> omega) _)))⟩
  cases h4 : inB p 1 60000
  · have H := Lib.hid (wt_no4 (l := l) (s := s) (d := d) h4)
    go_enter Try.func6, Try.ntmps6
    go_wp2_with (go_at_call 24; refine (in_any _ _ _ _).mono ?_; rintro e w1 ⟨rfl, rfl⟩)
    go_ret
    exact ⟨ret_bool H.out, (by repeat (first | exact Ext.refl _ | assumption | apply Ext.alloc | apply Ext.drew | (refine Ext.trans ?_ (by assumption)) | (refine Ext.setNew ?_ (by simp <;> omega) _)))⟩
  · have H := Lib.hid (wt_all h1 h2 h3 h4)
    go_enter Try.func6, Try.ntmps6
    go_wp2_with (go_at_call 24; refine (in_any _ _ _ _).mono ?_; rintro e w1 ⟨rfl, rfl⟩)
    go_ret
    exact ⟨ret_bool H.out, (by repeat (first | exact Ext.refl _ | assumption | apply Ext.alloc | apply Ext.drew | (refine Ext.trans ?_ (by assumption)) | (refine Ext.setNew ?_ (by simp <;> omega) _)))⟩
theorem isWatch_impl (l s d p : Int) (w : World) : Calls Try.prog 8 #[Wt l s d p] w fun e w' => e = .returned (.bool (wtB l s d p)) ∧ Ext w w' := by
  go_enter Try.func8, Try.ntmps8
  go_wp2_with fail
  refine (watchValid_any _ _ _ _ _).mono ?_
  rintro e w1 ⟨rfl, hy⟩
  go_wp2
  go_ret
  exact ⟨rfl, Ext.trans (by repeat (first | exact Ext.refl _ | assumption | apply Ext.alloc | apply Ext.drew | (refine Ext.trans ?_ (by assumption)) | (refine Ext.setNew ?_ (by simp <;> omega) _))) hy⟩
theorem toWatch_any (l s d p : Int) (w : World) : Calls Try.prog 7 #[Wt l s d p] w fun e w' => e = .returned (Wt l s d p) ∧ Ext w w' := by
  go_enter Try.func7, Try.ntmps7
  go_wp2
  exact bodyPost_ret (v := Wt l s d p) (by simp [results, Try.results7, go_sem]) rfl ⟨rfl, (by repeat (first | exact Ext.refl _ | assumption | apply Ext.alloc | apply Ext.drew | (refine Ext.trans ?_ (by assumption)) | (refine Ext.setNew ?_ (by simp <;> omega) _)))⟩

end Go.Proofs.Ytknelhceaoblhaa.Wch
