/- Contracts of SegmentsCross and SegmentsMeet (impl, spec), for all segments. -/
import Derived.Test.YtdcnfeimfpafiaaRel3
namespace Go.Proofs.Ytdcnfeimfpafiaa.Seg
open Go.ChangeShapes Go.WideShapes Go.ChangeAt Go.RowKit
open Go.Proofs.Ytdcnfeimfpafiaa.Num Go.Proofs.Ytdcnfeimfpafiaa.Kit Go.Proofs.Ytdcnfeimfpafiaa.Pts
set_option linter.unusedVariables false
set_option linter.unusedSimpArgs false

set_option maxHeartbeats 1000000 in
theorem meetS_any (a b c d p q u v : Int) (w : World) (ha : Co a) (hb : Co b) (hc : Co c) (hd : Co d) (hp : Co p) (hq : Co q) (hu : Co u) (hv : Co v) :
    Calls Try.prog 63 #[Sg a b c d, Sg p q u v] w fun e w' => e = .returned (.bool (hvB a b c d p q u v false)) ∧ Ext w w' := by
  cases g0 : crB a b c d p q u v
  rotate_left
  · have H := Lib.hid (show hvB a b c d p q u v false = true by unfold hvB endB; rw [g0]; rfl)
    go_enter Try.func63, Try.ntmps63
    obtain ⟨⟨i0, i1, i2, i3⟩, _⟩ := ((Box.new4 (w := w) (n := w.heap.size) (x := .int .i64 a) (y := .int .i64 b) (z := .int .i64 c) (u := .int .i64 d) (t := 80) rfl).alloc (.cells #[.int .i64 p, .int .i64 q, .int .i64 u, .int .i64 v] 80)).four; obtain ⟨⟨j0, j1, j2, j3⟩, _⟩ := (Box.new4 (w := w.alloc (.cells #[.int .i64 a, .int .i64 b, .int .i64 c, .int .i64 d] 80)) (n := w.heap.size + 1) (x := .int .i64 p) (y := .int .i64 q) (z := .int .i64 u) (u := .int .i64 v) (t := 80) (by simp)).four; have hx := ((Ext.refl w).alloc (.cells #[.int .i64 a, .int .i64 b, .int .i64 c, .int .i64 d] 80)).alloc (.cells #[.int .i64 p, .int .i64 q, .int .i64 u, .int .i64 v] 80)
    go_wp2_with (first | (go_at_call 98; refine (crossS2_any _ _ _ _ _ _ _ _ _ ha hb hc hd hp hq hu hv).mono ?_; rintro e w1 ⟨rfl, hy⟩; replace i0 := hy.cellOf i0; replace i1 := hy.cellOf i1; replace i2 := hy.cellOf i2; replace i3 := hy.cellOf i3; replace j0 := hy.cellOf j0; replace j1 := hy.cellOf j1; replace j2 := hy.cellOf j2; replace j3 := hy.cellOf j3; replace hx := hx.trans hy; clear hy) | (go_at_call 99; refine (onS_any _ _ _ _ _ _ _ (by omega) (by omega) (by omega) (by omega) (by omega) (by omega)).mono ?_; rintro e w1 ⟨rfl, hy⟩; replace i0 := hy.cellOf i0; replace i1 := hy.cellOf i1; replace i2 := hy.cellOf i2; replace i3 := hy.cellOf i3; replace j0 := hy.cellOf j0; replace j1 := hy.cellOf j1; replace j2 := hy.cellOf j2; replace j3 := hy.cellOf j3; replace hx := hx.trans hy; clear hy))
    go_ret
    exact ⟨ret_bool H.out, hx⟩
  cases g1 : onB a b c d p q
  rotate_left
  · have H := Lib.hid (show hvB a b c d p q u v false = true by unfold hvB endB; rw [g0, g1]; cases crB a b c d p q u v <;> cases onB a b c d p q <;> cases onB a b c d u v <;> cases onB p q u v a b <;> cases onB p q u v c d <;> rfl)
    go_enter Try.func63, Try.ntmps63
    obtain ⟨⟨i0, i1, i2, i3⟩, _⟩ := ((Box.new4 (w := w) (n := w.heap.size) (x := .int .i64 a) (y := .int .i64 b) (z := .int .i64 c) (u := .int .i64 d) (t := 80) rfl).alloc (.cells #[.int .i64 p, .int .i64 q, .int .i64 u, .int .i64 v] 80)).four; obtain ⟨⟨j0, j1, j2, j3⟩, _⟩ := (Box.new4 (w := w.alloc (.cells #[.int .i64 a, .int .i64 b, .int .i64 c, .int .i64 d] 80)) (n := w.heap.size + 1) (x := .int .i64 p) (y := .int .i64 q) (z := .int .i64 u) (u := .int .i64 v) (t := 80) (by simp)).four; have hx := ((Ext.refl w).alloc (.cells #[.int .i64 a, .int .i64 b, .int .i64 c, .int .i64 d] 80)).alloc (.cells #[.int .i64 p, .int .i64 q, .int .i64 u, .int .i64 v] 80)
    go_wp2_with (first | (go_at_call 98; refine (crossS2_any _ _ _ _ _ _ _ _ _ ha hb hc hd hp hq hu hv).mono ?_; rintro e w1 ⟨rfl, hy⟩; replace i0 := hy.cellOf i0; replace i1 := hy.cellOf i1; replace i2 := hy.cellOf i2; replace i3 := hy.cellOf i3; replace j0 := hy.cellOf j0; replace j1 := hy.cellOf j1; replace j2 := hy.cellOf j2; replace j3 := hy.cellOf j3; replace hx := hx.trans hy; clear hy) | (go_at_call 99; refine (onS_any _ _ _ _ _ _ _ (by omega) (by omega) (by omega) (by omega) (by omega) (by omega)).mono ?_; rintro e w1 ⟨rfl, hy⟩; replace i0 := hy.cellOf i0; replace i1 := hy.cellOf i1; replace i2 := hy.cellOf i2; replace i3 := hy.cellOf i3; replace j0 := hy.cellOf j0; replace j1 := hy.cellOf j1; replace j2 := hy.cellOf j2; replace j3 := hy.cellOf j3; replace hx := hx.trans hy; clear hy))
    go_ret
    exact ⟨ret_bool H.out, hx⟩
  cases g2 : onB a b c d u v
  rotate_left
  · have H := Lib.hid (show hvB a b c d p q u v false = true by unfold hvB endB; rw [g0, g1, g2]; cases crB a b c d p q u v <;> cases onB a b c d p q <;> cases onB a b c d u v <;> cases onB p q u v a b <;> cases onB p q u v c d <;> rfl)
    go_enter Try.func63, Try.ntmps63
    obtain ⟨⟨i0, i1, i2, i3⟩, _⟩ := ((Box.new4 (w := w) (n := w.heap.size) (x := .int .i64 a) (y := .int .i64 b) (z := .int .i64 c) (u := .int .i64 d) (t := 80) rfl).alloc (.cells #[.int .i64 p, .int .i64 q, .int .i64 u, .int .i64 v] 80)).four; obtain ⟨⟨j0, j1, j2, j3⟩, _⟩ := (Box.new4 (w := w.alloc (.cells #[.int .i64 a, .int .i64 b, .int .i64 c, .int .i64 d] 80)) (n := w.heap.size + 1) (x := .int .i64 p) (y := .int .i64 q) (z := .int .i64 u) (u := .int .i64 v) (t := 80) (by simp)).four; have hx := ((Ext.refl w).alloc (.cells #[.int .i64 a, .int .i64 b, .int .i64 c, .int .i64 d] 80)).alloc (.cells #[.int .i64 p, .int .i64 q, .int .i64 u, .int .i64 v] 80)
    go_wp2_with (first | (go_at_call 98; refine (crossS2_any _ _ _ _ _ _ _ _ _ ha hb hc hd hp hq hu hv).mono ?_; rintro e w1 ⟨rfl, hy⟩; replace i0 := hy.cellOf i0; replace i1 := hy.cellOf i1; replace i2 := hy.cellOf i2; replace i3 := hy.cellOf i3; replace j0 := hy.cellOf j0; replace j1 := hy.cellOf j1; replace j2 := hy.cellOf j2; replace j3 := hy.cellOf j3; replace hx := hx.trans hy; clear hy) | (go_at_call 99; refine (onS_any _ _ _ _ _ _ _ (by omega) (by omega) (by omega) (by omega) (by omega) (by omega)).mono ?_; rintro e w1 ⟨rfl, hy⟩; replace i0 := hy.cellOf i0; replace i1 := hy.cellOf i1; replace i2 := hy.cellOf i2; replace i3 := hy.cellOf i3; replace j0 := hy.cellOf j0; replace j1 := hy.cellOf j1; replace j2 := hy.cellOf j2; replace j3 := hy.cellOf j3; replace hx := hx.trans hy; clear hy))
    go_ret
    exact ⟨ret_bool H.out, hx⟩
  cases g3 : onB p q u v a b
  rotate_left
  · have H := Lib.hid (show hvB a b c d p q u v false = true by unfold hvB endB; rw [g0, g1, g2, g3]; cases crB a b c d p q u v <;> cases onB a b c d p q <;> cases onB a b c d u v <;> cases onB p q u v a b <;> cases onB p q u v c d <;> rfl)
    go_enter Try.func63, Try.ntmps63
    obtain ⟨⟨i0, i1, i2, i3⟩, _⟩ := ((Box.new4 (w := w) (n := w.heap.size) (x := .int .i64 a) (y := .int .i64 b) (z := .int .i64 c) (u := .int .i64 d) (t := 80) rfl).alloc (.cells #[.int .i64 p, .int .i64 q, .int .i64 u, .int .i64 v] 80)).four; obtain ⟨⟨j0, j1, j2, j3⟩, _⟩ := (Box.new4 (w := w.alloc (.cells #[.int .i64 a, .int .i64 b, .int .i64 c, .int .i64 d] 80)) (n := w.heap.size + 1) (x := .int .i64 p) (y := .int .i64 q) (z := .int .i64 u) (u := .int .i64 v) (t := 80) (by simp)).four; have hx := ((Ext.refl w).alloc (.cells #[.int .i64 a, .int .i64 b, .int .i64 c, .int .i64 d] 80)).alloc (.cells #[.int .i64 p, .int .i64 q, .int .i64 u, .int .i64 v] 80)
    go_wp2_with (first | (go_at_call 98; refine (crossS2_any _ _ _ _ _ _ _ _ _ ha hb hc hd hp hq hu hv).mono ?_; rintro e w1 ⟨rfl, hy⟩; replace i0 := hy.cellOf i0; replace i1 := hy.cellOf i1; replace i2 := hy.cellOf i2; replace i3 := hy.cellOf i3; replace j0 := hy.cellOf j0; replace j1 := hy.cellOf j1; replace j2 := hy.cellOf j2; replace j3 := hy.cellOf j3; replace hx := hx.trans hy; clear hy) | (go_at_call 99; refine (onS_any _ _ _ _ _ _ _ (by omega) (by omega) (by omega) (by omega) (by omega) (by omega)).mono ?_; rintro e w1 ⟨rfl, hy⟩; replace i0 := hy.cellOf i0; replace i1 := hy.cellOf i1; replace i2 := hy.cellOf i2; replace i3 := hy.cellOf i3; replace j0 := hy.cellOf j0; replace j1 := hy.cellOf j1; replace j2 := hy.cellOf j2; replace j3 := hy.cellOf j3; replace hx := hx.trans hy; clear hy))
    go_ret
    exact ⟨ret_bool H.out, hx⟩
  have H := Lib.hid (show hvB a b c d p q u v false = onB p q u v c d by unfold hvB endB; rw [g0, g1, g2, g3]; cases onB p q u v c d <;> rfl)
  go_enter Try.func63, Try.ntmps63
  obtain ⟨⟨i0, i1, i2, i3⟩, _⟩ := ((Box.new4 (w := w) (n := w.heap.size) (x := .int .i64 a) (y := .int .i64 b) (z := .int .i64 c) (u := .int .i64 d) (t := 80) rfl).alloc (.cells #[.int .i64 p, .int .i64 q, .int .i64 u, .int .i64 v] 80)).four; obtain ⟨⟨j0, j1, j2, j3⟩, _⟩ := (Box.new4 (w := w.alloc (.cells #[.int .i64 a, .int .i64 b, .int .i64 c, .int .i64 d] 80)) (n := w.heap.size + 1) (x := .int .i64 p) (y := .int .i64 q) (z := .int .i64 u) (u := .int .i64 v) (t := 80) (by simp)).four; have hx := ((Ext.refl w).alloc (.cells #[.int .i64 a, .int .i64 b, .int .i64 c, .int .i64 d] 80)).alloc (.cells #[.int .i64 p, .int .i64 q, .int .i64 u, .int .i64 v] 80)
  go_wp2_with (first | (go_at_call 98; refine (crossS2_any _ _ _ _ _ _ _ _ _ ha hb hc hd hp hq hu hv).mono ?_; rintro e w1 ⟨rfl, hy⟩; replace i0 := hy.cellOf i0; replace i1 := hy.cellOf i1; replace i2 := hy.cellOf i2; replace i3 := hy.cellOf i3; replace j0 := hy.cellOf j0; replace j1 := hy.cellOf j1; replace j2 := hy.cellOf j2; replace j3 := hy.cellOf j3; replace hx := hx.trans hy; clear hy) | (go_at_call 99; refine (onS_any _ _ _ _ _ _ _ (by omega) (by omega) (by omega) (by omega) (by omega) (by omega)).mono ?_; rintro e w1 ⟨rfl, hy⟩; replace i0 := hy.cellOf i0; replace i1 := hy.cellOf i1; replace i2 := hy.cellOf i2; replace i3 := hy.cellOf i3; replace j0 := hy.cellOf j0; replace j1 := hy.cellOf j1; replace j2 := hy.cellOf j2; replace j3 := hy.cellOf j3; replace hx := hx.trans hy; clear hy))
  go_ret
  exact ⟨ret_bool H.out, hx⟩

/-- What both SegmentsCross answer (z: properly) and SegmentsMeet. -/
def hcB (a b c d p q u v : Int) (z : Bool) : Bool := if sgB a b c d = true ∧ sgB p q u v = true then hvB a b c d p q u v z else false
def hcC (a b c d p q u v : Int) : Int := if sgB a b c d = true ∧ sgB p q u v = true then 0 else 1
theorem hv_true (a b c d p q u v : Int) : hvB a b c d p q u v true = crB a b c d p q u v := by unfold hvB; cases crB a b c d p q u v <;> rfl

theorem haveCommonPoint_any (a b c d p q u v : Int) (z : Bool) (w : World) :
    Calls Try.prog 96 #[Sg a b c d, Sg p q u v, .bool z] w fun e w' => e = .returned (.tuple #[.bool (hcB a b c d p q u v z), .int .i64 (hcC a b c d p q u v)]) ∧ Ext w w' := by
  cases h1 : sgB a b c d
  · have HQ := Lib.hid (show hcB a b c d p q u v z = false from if_neg (by simp [h1]))
    have HC := Lib.hid (show hcC a b c d p q u v = 1 from if_neg (by simp [h1]))
    go_enter Try.func96, Try.ntmps96
    obtain ⟨⟨i0, i1, i2, i3⟩, _⟩ := ((Box.new4 (w := w) (n := w.heap.size) (x := .int .i64 a) (y := .int .i64 b) (z := .int .i64 c) (u := .int .i64 d) (t := 80) rfl).alloc (.cells #[.int .i64 p, .int .i64 q, .int .i64 u, .int .i64 v] 80)).four; obtain ⟨⟨j0, j1, j2, j3⟩, _⟩ := (Box.new4 (w := w.alloc (.cells #[.int .i64 a, .int .i64 b, .int .i64 c, .int .i64 d] 80)) (n := w.heap.size + 1) (x := .int .i64 p) (y := .int .i64 q) (z := .int .i64 u) (u := .int .i64 v) (t := 80) (by simp)).four; have hx := ((Ext.refl w).alloc (.cells #[.int .i64 a, .int .i64 b, .int .i64 c, .int .i64 d] 80)).alloc (.cells #[.int .i64 p, .int .i64 q, .int .i64 u, .int .i64 v] 80)
    go_wp2_with (go_at_call 58; refine (sgValid_any _ _ _ _ _).mono ?_; rintro e w1 ⟨rfl, hy⟩; replace i0 := hy.cellOf i0; replace i1 := hy.cellOf i1; replace i2 := hy.cellOf i2; replace i3 := hy.cellOf i3; replace j0 := hy.cellOf j0; replace j1 := hy.cellOf j1; replace j2 := hy.cellOf j2; replace j3 := hy.cellOf j3; replace hx := hx.trans hy; clear hy)
    go_ret2
    exact ⟨ret_bool_int HQ.out HC.out, hx⟩
  cases h2 : sgB p q u v
  · have HQ := Lib.hid (show hcB a b c d p q u v z = false from if_neg (by simp [h2]))
    have HC := Lib.hid (show hcC a b c d p q u v = 1 from if_neg (by simp [h2]))
    go_enter Try.func96, Try.ntmps96
    obtain ⟨⟨i0, i1, i2, i3⟩, _⟩ := ((Box.new4 (w := w) (n := w.heap.size) (x := .int .i64 a) (y := .int .i64 b) (z := .int .i64 c) (u := .int .i64 d) (t := 80) rfl).alloc (.cells #[.int .i64 p, .int .i64 q, .int .i64 u, .int .i64 v] 80)).four; obtain ⟨⟨j0, j1, j2, j3⟩, _⟩ := (Box.new4 (w := w.alloc (.cells #[.int .i64 a, .int .i64 b, .int .i64 c, .int .i64 d] 80)) (n := w.heap.size + 1) (x := .int .i64 p) (y := .int .i64 q) (z := .int .i64 u) (u := .int .i64 v) (t := 80) (by simp)).four; have hx := ((Ext.refl w).alloc (.cells #[.int .i64 a, .int .i64 b, .int .i64 c, .int .i64 d] 80)).alloc (.cells #[.int .i64 p, .int .i64 q, .int .i64 u, .int .i64 v] 80)
    go_wp2_with (go_at_call 58; refine (sgValid_any _ _ _ _ _).mono ?_; rintro e w1 ⟨rfl, hy⟩; replace i0 := hy.cellOf i0; replace i1 := hy.cellOf i1; replace i2 := hy.cellOf i2; replace i3 := hy.cellOf i3; replace j0 := hy.cellOf j0; replace j1 := hy.cellOf j1; replace j2 := hy.cellOf j2; replace j3 := hy.cellOf j3; replace hx := hx.trans hy; clear hy)
    go_ret2
    exact ⟨ret_bool_int HQ.out HC.out, hx⟩
  · rw [show hcB a b c d p q u v z = hvB a b c d p q u v z from if_pos ⟨h1, h2⟩, show hcC a b c d p q u v = 0 from if_pos ⟨h1, h2⟩]
    exact haveCommonPoint_in a b c d p q u v z w h1 h2

theorem segmentsMeet_impl (a b c d p q u v : Int) (w : World) :
    Calls Try.prog 59 #[Sg a b c d, Sg p q u v] w fun e w' => e = .returned (.tuple #[.bool (hcB a b c d p q u v false), .int .i64 (hcC a b c d p q u v)]) ∧ Ext w w' := by
  go_enter Try.func59, Try.ntmps59
  go_wp2_with (go_at_call 96; refine (haveCommonPoint_any _ _ _ _ _ _ _ _ _ _).mono ?_; rintro e w1 ⟨rfl, hx⟩)
  go_ret2
  exact ⟨rfl, (by repeat (first | exact Ext.refl _ | assumption | apply Ext.alloc | apply Ext.drew | (refine Ext.trans ?_ (by assumption)) | (refine Ext.setNew ?_ (by simp <;> omega) _)))⟩

end Go.Proofs.Ytdcnfeimfpafiaa.Seg
