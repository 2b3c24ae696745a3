/- CutTrack (spec): its errors. -/
import Derived.Test.YtookaodccmlkoaaCut
import Derived.Deep.DeepCutAuto
namespace Go.Proofs.Ytookaodccmlkoaa.Trk
open Go.ChangeShapes Go.WideShapes Go.ChangeAt Go.RowKit
open Go.Proofs.Ytookaodccmlkoaa.Num Go.Proofs.Ytookaodccmlkoaa.Kit Go.Proofs.Ytookaodccmlkoaa.Pts Go.Proofs.Ytookaodccmlkoaa.Seg Go.Proofs.Ytookaodccmlkoaa.Div
set_option linter.unusedVariables false
set_option linter.unusedSimpArgs false

set_option maxHeartbeats 1000000 in
theorem cutS_bad (a : Option Addr) (cap : Nat) (fs : List F3) (f t : Int) (w : World) (hf : Fxs w a fs) (hk : ckI fs f t ≠ 0) :
    Calls Try.prog 33 #[Tr (.slice a fs.length cap), .int .i64 f, .int .i64 t] w fun e w' => e = .returned (.tuple #[Tr (.slice none 0 0), .int .i64 (ckI fs f t)]) ∧ Ext w w' := by
  have HF := Lib.hid hf
  clear hf
  cases hv : trB fs
  · have H := Lib.hid (show ckI fs f t = 1 by unfold ckI; rw [hv]; simp)
    rw [H.out]
    go_enter Try.func33, Try.ntmps33
    go_wp2_with fail
    refine (isTrack_spec _ _ _ _ (HF.out.ext (by repeat (first | exact Ext.refl _ | assumption | apply Ext.alloc | apply Ext.drew | (refine Ext.trans ?_ (by assumption)) | (refine Ext.setNew ?_ (by simp <;> omega) _))))).mono ?_
    rw [hv]
    rintro e w1 ⟨rfl, h⟩
    have X := Lib.hid ((((Ext.refl w).alloc _).alloc _).trans h)
    obtain ⟨r0, rf⟩ := ((Box.new (w := w.alloc (.cells #[.slice a fs.length cap] 35)) (vs := [.slice none 0 0]) (t := 35) rfl).ext h) 0 _ rfl
    simp at r0 rf
    clear h
    go_wp2
    have g0 : (w1.setCell ⟨w.heap.size + 1, 0, none⟩ (.slice none 0 0)).cell? ⟨w.heap.size + 1, 0, none⟩ = some (.slice none 0 0) := World.cell?_setCell_same _ _ _ r0
    exact bodyPost_ret (v := .tuple #[Tr (.slice none 0 0), .int .i64 1]) (by simp [results, Try.results33, go_sem, g0]) rfl ⟨rfl, X.out.setNew (p := ⟨w.heap.size + 1, 0, none⟩) (by simp) _⟩
  · have h0 : 0 < fs.length := by have := (trB_yes hv).1; omega
    have H := Lib.hid (show ckI fs f t = 2 by unfold ckI at hk ⊢; rw [if_pos hv] at hk ⊢; split at hk <;> simp_all)
    rw [H.out]
    have HN := Lib.hid (show ¬ (f < t ∧ lastB fs f = true ∧ lastB fs t = true) by intro h; apply hk; unfold ckI; rw [if_pos hv, if_pos h])
    clear hk
    go_enter Try.func33, Try.ntmps33
    go_wp2_with fail
    refine (isTrack_spec _ _ _ _ (HF.out.ext (by repeat (first | exact Ext.refl _ | assumption | apply Ext.alloc | apply Ext.drew | (refine Ext.trans ?_ (by assumption)) | (refine Ext.setNew ?_ (by simp <;> omega) _))))).mono ?_
    rw [hv]
    rintro e w1 ⟨rfl, h⟩
    have X := Lib.hid ((((Ext.refl w).alloc _).alloc _).trans h)
    obtain ⟨r0, rf⟩ := ((Box.new (w := w.alloc (.cells #[.slice a fs.length cap] 35)) (vs := [.slice none 0 0]) (t := 35) rfl).ext h) 0 _ rfl
    simp at r0 rf
    have b1 : w1.cell? ⟨w.heap.size, 0, none⟩ = some (.slice a fs.length cap) := h.cellOf (((Ext.refl _).alloc _).cellOf (boxed 0 rfl rfl))
    clear h
    by_cases hft : t ≤ f
    · have hd : decide (f ≥ t) = true := decide_eq_true hft
      go_wp2
      have g0 : (w1.setCell ⟨w.heap.size + 1, 0, none⟩ (.slice none 0 0)).cell? ⟨w.heap.size + 1, 0, none⟩ = some (.slice none 0 0) := World.cell?_setCell_same _ _ _ r0
      exact bodyPost_ret (v := .tuple #[Tr (.slice none 0 0), .int .i64 2]) (by simp [results, Try.results33, go_sem, g0]) rfl ⟨rfl, X.out.setNew (p := ⟨w.heap.size + 1, 0, none⟩) (by simp) _⟩
    · have hd : decide (f ≥ t) = false := decide_eq_false hft
      cases hl : lastB fs f
      · go_wp2_with fail
        refine (lasts_spec _ _ _ _ _ (HF.out.ext X.out) h0).mono ?_
        rw [hl]
        rintro e w2 ⟨rfl, h⟩
        replace rf := h.thawOf r0 rf
        replace r0 := h.cellOf r0
        replace X := Lib.hid (X.out.trans h)
        clear h b1
        go_wp2
        have g0 : (w2.setCell ⟨w.heap.size + 1, 0, none⟩ (.slice none 0 0)).cell? ⟨w.heap.size + 1, 0, none⟩ = some (.slice none 0 0) := World.cell?_setCell_same _ _ _ r0
        exact bodyPost_ret (v := .tuple #[Tr (.slice none 0 0), .int .i64 2]) (by simp [results, Try.results33, go_sem, g0]) rfl ⟨rfl, X.out.setNew (p := ⟨w.heap.size + 1, 0, none⟩) (by simp) _⟩
      · have hl2 : lastB fs t = false := by
          cases h : lastB fs t
          · rfl
          · exact absurd ⟨by omega, hl, h⟩ HN.out
        go_wp2_with fail
        refine (lasts_spec _ _ _ _ _ (HF.out.ext X.out) h0).mono ?_
        rw [hl]
        rintro e w2 ⟨rfl, h⟩
        replace rf := h.thawOf r0 rf
        replace r0 := h.cellOf r0
        replace b1 := h.cellOf b1
        replace X := Lib.hid (X.out.trans h)
        clear h
        go_wp2_with fail
        refine (lasts_spec _ _ _ _ _ (HF.out.ext X.out) h0).mono ?_
        rw [hl2]
        rintro e w3 ⟨rfl, h⟩
        replace rf := h.thawOf r0 rf
        replace r0 := h.cellOf r0
        replace X := Lib.hid (X.out.trans h)
        clear h b1
        go_wp2
        have g0 : (w3.setCell ⟨w.heap.size + 1, 0, none⟩ (.slice none 0 0)).cell? ⟨w.heap.size + 1, 0, none⟩ = some (.slice none 0 0) := World.cell?_setCell_same _ _ _ r0
        exact bodyPost_ret (v := .tuple #[Tr (.slice none 0 0), .int .i64 2]) (by simp [results, Try.results33, go_sem, g0]) rfl ⟨rfl, X.out.setNew (p := ⟨w.heap.size + 1, 0, none⟩) (by simp) _⟩

end Go.Proofs.Ytookaodccmlkoaa.Trk
