import Derived.Test.YtpdnefodbichkaaSeg
namespace Go.Proofs.Ytpdnefodbichkaa.Crs
open Go.ChangeShapes Go.WideShapes Go.ChangeAt Go.RowKit
open Go.Proofs.Ytpdnefodbichkaa.Num Go.Proofs.Ytpdnefodbichkaa.Kit Go.Proofs.Ytpdnefodbichkaa.Pts Go.Proofs.Ytpdnefodbichkaa.Seg
set_option linter.unusedVariables false
theorem lineValid_any (a b c d : Int) (w : World) : Calls Try.prog 40 #[Sg a b c d] w fun e w' => e = .returned (.bool (sgB a b c d)) ∧ Ext w w' := by
  go_enter Try.func40, Try.ntmps40
  go_wp2_with (go_at_call 26; refine (sgValid_any _ _ _ _ _).mono ?_; rintro e w1 ⟨rfl, hx⟩)
  go_ret
  exact ⟨rfl, (by repeat (first | exact Ext.refl _ | assumption | apply Ext.alloc | apply Ext.drew | (refine Ext.trans ?_ (by assumption)) | (refine Ext.setNew ?_ (by simp <;> omega) _)))⟩
theorem isLine_impl (a b c d : Int) (w : World) : Calls Try.prog 17 #[Sg a b c d] w fun e w' => e = .returned (.bool (sgB a b c d)) ∧ Ext w w' := by
  go_enter Try.func17, Try.ntmps17
  go_wp2_with (go_at_call 40; refine (lineValid_any _ _ _ _ _).mono ?_; rintro e w1 ⟨rfl, hx⟩)
  go_ret
  exact ⟨rfl, (by repeat (first | exact Ext.refl _ | assumption | apply Ext.alloc | apply Ext.drew | (refine Ext.trans ?_ (by assumption)) | (refine Ext.setNew ?_ (by simp <;> omega) _)))⟩
theorem isLine_spec (a b c d : Int) (w : World) : Calls Try.prog 71 #[Sg a b c d] w fun e w' => e = .returned (.bool (sgB a b c d)) ∧ Ext w w' := by
  cases h1 : ptB a b
  · have H := Lib.hid (show sgB a b c d = false by unfold sgB; rw [h1]; rfl)
    go_enter Try.func71, Try.ntmps71
    go_wp2_with (go_at_call 31; refine (isPoint_spec _ _ _).mono ?_; rintro e w1 ⟨rfl, hx⟩; obtain ⟨hc, hf⟩ := hx.facts; have hz := hx.size; (try simp at hz); (try (have hz0 : w.heap.size < w1.heap.size := by omega)); (try (have hz1 : w.heap.size + 1 < w1.heap.size := by omega)); (try (have hz2 : w.heap.size + 1 + 1 < w1.heap.size := by omega)); (try (have hz3 : w.heap.size + 1 + 1 + 1 < w1.heap.size := by omega)))
    go_ret
    exact ⟨ret_bool H.out, (by repeat (first | exact Ext.refl _ | assumption | apply Ext.alloc | apply Ext.drew | (refine Ext.trans ?_ (by assumption)) | (refine Ext.setNew ?_ (by simp <;> omega) _)))⟩
  cases h2 : ptB c d
  · have H := Lib.hid (show sgB a b c d = false by unfold sgB; rw [h1, h2]; rfl)
    go_enter Try.func71, Try.ntmps71
    go_wp2_with (go_at_call 31; refine (isPoint_spec _ _ _).mono ?_; rintro e w1 ⟨rfl, hx⟩; obtain ⟨hc, hf⟩ := hx.facts; have hz := hx.size; (try simp at hz); (try (have hz0 : w.heap.size < w1.heap.size := by omega)); (try (have hz1 : w.heap.size + 1 < w1.heap.size := by omega)); (try (have hz2 : w.heap.size + 1 + 1 < w1.heap.size := by omega)); (try (have hz3 : w.heap.size + 1 + 1 + 1 < w1.heap.size := by omega)))
    go_ret
    exact ⟨ret_bool H.out, (by repeat (first | exact Ext.refl _ | assumption | apply Ext.alloc | apply Ext.drew | (refine Ext.trans ?_ (by assumption)) | (refine Ext.setNew ?_ (by simp <;> omega) _)))⟩
  · have H := Lib.hid (show sgB a b c d = !(a == c && b == d) by unfold sgB; rw [h1, h2]; rfl)
    cases h3 : (a == c)
    · rw [h3] at H
      go_enter Try.func71, Try.ntmps71
      go_wp2_with (go_at_call 31; refine (isPoint_spec _ _ _).mono ?_; rintro e w1 ⟨rfl, hx⟩; obtain ⟨hc, hf⟩ := hx.facts; have hz := hx.size; (try simp at hz); (try (have hz0 : w.heap.size < w1.heap.size := by omega)); (try (have hz1 : w.heap.size + 1 < w1.heap.size := by omega)); (try (have hz2 : w.heap.size + 1 + 1 < w1.heap.size := by omega)); (try (have hz3 : w.heap.size + 1 + 1 + 1 < w1.heap.size := by omega)))
      go_ret
      exact ⟨ret_bool H.out, (by repeat (first | exact Ext.refl _ | assumption | apply Ext.alloc | apply Ext.drew | (refine Ext.trans ?_ (by assumption)) | (refine Ext.setNew ?_ (by simp <;> omega) _)))⟩
    · rw [h3] at H
      cases h4 : (b == d)
      · rw [h4] at H
        go_enter Try.func71, Try.ntmps71
        go_wp2_with (go_at_call 31; refine (isPoint_spec _ _ _).mono ?_; rintro e w1 ⟨rfl, hx⟩; obtain ⟨hc, hf⟩ := hx.facts; have hz := hx.size; (try simp at hz); (try (have hz0 : w.heap.size < w1.heap.size := by omega)); (try (have hz1 : w.heap.size + 1 < w1.heap.size := by omega)); (try (have hz2 : w.heap.size + 1 + 1 < w1.heap.size := by omega)); (try (have hz3 : w.heap.size + 1 + 1 + 1 < w1.heap.size := by omega)))
        go_ret
        exact ⟨ret_bool H.out, (by repeat (first | exact Ext.refl _ | assumption | apply Ext.alloc | apply Ext.drew | (refine Ext.trans ?_ (by assumption)) | (refine Ext.setNew ?_ (by simp <;> omega) _)))⟩
      · rw [h4] at H
        go_enter Try.func71, Try.ntmps71
        go_wp2_with (go_at_call 31; refine (isPoint_spec _ _ _).mono ?_; rintro e w1 ⟨rfl, hx⟩; obtain ⟨hc, hf⟩ := hx.facts; have hz := hx.size; (try simp at hz); (try (have hz0 : w.heap.size < w1.heap.size := by omega)); (try (have hz1 : w.heap.size + 1 < w1.heap.size := by omega)); (try (have hz2 : w.heap.size + 1 + 1 < w1.heap.size := by omega)); (try (have hz3 : w.heap.size + 1 + 1 + 1 < w1.heap.size := by omega)))
        go_ret
        exact ⟨ret_bool H.out, (by repeat (first | exact Ext.refl _ | assumption | apply Ext.alloc | apply Ext.drew | (refine Ext.trans ?_ (by assumption)) | (refine Ext.setNew ?_ (by simp <;> omega) _)))⟩
theorem line_done {n : Nat} {w F : World} {tmps : Array Value} {a b c d : Int} (B : Box F n [.int .i64 a, .int .i64 b, .int .i64 c, .int .i64 d]) (hC : Ext w F) (ha : tmps[2]? = some (.pointer (some ⟨n, 0, none⟩))) :
    bodyPost Try.prog Try.f44 (fun e w' => e = .returned (Sg a b c d) ∧ Ext w w') Exit.ret ⟨tmps, []⟩ F := by
  obtain ⟨⟨g0, g1, g2, g3⟩, _⟩ := B.four
  exact bodyPost_ret (v := Sg a b c d) (by simp [results, Try.results44, go_sem, ha, g0, g1, g2, g3]) rfl ⟨rfl, hC⟩
theorem toLine_any (a b c d : Int) (w : World) : Calls Try.prog 44 #[Sg a b c d] w fun e w' => e = .returned (Sg a b c d) ∧ Ext w w' := by
  go_enter Try.func44, Try.ntmps44
  go_wp2_with fail
  refine (toPoint_any _ _ _).mono ?_
  rintro e w1 ⟨rfl, hx⟩
  have B0 := ((((Box.new4 (w := w) (n := w.heap.size) (x := .int .i64 a) (y := .int .i64 b) (z := .int .i64 c) (u := .int .i64 d) (t := 51) rfl).alloc _).alloc _).ext hx)
  have B1 := ((Box.new4 (w := w.alloc (.cells #[.int .i64 a, .int .i64 b, .int .i64 c, .int .i64 d] 51)) (n := w.heap.size + 1) (x := .int .i64 0) (y := .int .i64 0) (z := .int .i64 0) (u := .int .i64 0) (t := 40) (by simp)).alloc _).ext hx
  have B2 := ((Box.new4 (w := (w.alloc (.cells #[.int .i64 a, .int .i64 b, .int .i64 c, .int .i64 d] 51)).alloc (.cells #[.int .i64 0, .int .i64 0, .int .i64 0, .int .i64 0] 40)) (n := w.heap.size + 1 + 1) (x := .int .i64 0) (y := .int .i64 0) (z := .int .i64 0) (u := .int .i64 0) (t := 40) (by simp))).ext hx
  replace hx := (((Ext.refl w).alloc _).alloc _).alloc _ |>.trans hx
  obtain ⟨⟨p0, p1, p2, p3⟩, _⟩ := B0.four
  replace B1 := B1.away2 (m := w.heap.size + 1 + 1) (i := 0) (j := 1) (u := .int .i64 a) (v := .int .i64 b) (by omega)
  have HB2 := Lib.hid ((B2.set 0 (by simp) (.int .i64 a)).set 1 (by simp) (.int .i64 b))
  obtain ⟨_, f0, f1, _, _⟩ := B2.four
  clear B2
  go_wp2_with fail
  refine (toPoint_any _ _ _).mono ?_
  rintro e w2 ⟨rfl, hx2⟩
  replace hx := (((hx.setNew (p := ⟨w.heap.size + 1 + 1, 0, none⟩) (by simp; omega) (.int .i64 a)).setNew (p := ⟨w.heap.size + 1 + 1, 1, none⟩) (by simp; omega) (.int .i64 b))).trans hx2
  have HB1 := Lib.hid (((B1.ext hx2).away2 (m := w.heap.size + 1 + 1) (i := 2) (j := 3) (u := .int .i64 c) (v := .int .i64 d) (by omega)).set4 (a := .int .i64 a) (b := .int .i64 b) (c := .int .i64 c) (d := .int .i64 d))
  obtain ⟨_, h0, h1, h2, h3⟩ := (B1.ext hx2).four
  have HB3 := Lib.hid (HB2.out.ext hx2)
  obtain ⟨⟨i0, i1, i2, i3⟩, j0, j1, j2, j3⟩ := HB3.out.four
  clear B0 B1 hx2 f0 f1
  go_wp2
  refine line_done HB1.out ?_ rfl
  exact (((((hx.setNew (p := ⟨w.heap.size + 1 + 1, 2, none⟩) (by simp; omega) _).setNew (p := ⟨w.heap.size + 1 + 1, 3, none⟩) (by simp; omega) _).setNew (p := ⟨w.heap.size + 1, 0, none⟩) (by simp) _).setNew (p := ⟨w.heap.size + 1, 1, none⟩) (by simp) _).setNew (p := ⟨w.heap.size + 1, 2, none⟩) (by simp) _).setNew (p := ⟨w.heap.size + 1, 3, none⟩) (by simp) _
end Go.Proofs.Ytpdnefodbichkaa.Crs
