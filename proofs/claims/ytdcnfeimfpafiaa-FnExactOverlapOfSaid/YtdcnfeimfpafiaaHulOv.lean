/- What OverlapOf answers (chapter 9), both. -/
import Derived.Test.YtdcnfeimfpafiaaHul5
namespace Go.Proofs.Ytdcnfeimfpafiaa.Hul
open Go.ChangeShapes Go.WideShapes Go.ChangeAt Go.RowKit
open Go.Proofs.Ytdcnfeimfpafiaa.Num Go.Proofs.Ytdcnfeimfpafiaa.Kit Go.Proofs.Ytdcnfeimfpafiaa.Pts Go.Proofs.Ytdcnfeimfpafiaa.Seg Go.Proofs.Ytdcnfeimfpafiaa.Wnd
open Go.Proofs.Ytdcnfeimfpafiaa.Lth (ln2 ln2_pos length_any sqs_bd)
set_option linter.unusedVariables false
set_option linter.unusedSimpArgs false

set_option maxHeartbeats 2000000 in
theorem overlapOf_impl (a b c d n p q u v m : Int) (w : World) : Calls Try.prog 16 #[Hv a b c d n, Hv p q u v m] w fun e w' => e = .returned (.tuple #[.int .i64 (ovV a b c d n p q u v m), .int .i64 (h2C a b c d n p q u v m)]) ∧ Ext w w' := by
  obtain ⟨W0, hW0⟩ : ∃ W0, W0 = (w.alloc (.cells #[.int .i64 a, .int .i64 b, .int .i64 c, .int .i64 d, .int .i64 n] 27)).alloc (.cells #[.int .i64 p, .int .i64 q, .int .i64 u, .int .i64 v, .int .i64 m] 27) := ⟨_, rfl⟩
  have hX : Ext w W0 := hW0 ▸ (((Ext.refl w).alloc _).alloc _)
  have hs0 : W0.heap.size = w.heap.size + 1 + 1 := by rw [hW0]; simp
  have e00 : ∀ w', (Ext W0) w' → w'.cell? ⟨w.heap.size, 0, none⟩ = some (.int .i64 a) := fun w' h => h.cellOf (by rw [hW0]; exact ((Ext.refl _).alloc _).cellOf (boxed 0 rfl (by simp)))
  have e01 : ∀ w', (Ext W0) w' → w'.cell? ⟨w.heap.size, 1, none⟩ = some (.int .i64 b) := fun w' h => h.cellOf (by rw [hW0]; exact ((Ext.refl _).alloc _).cellOf (boxed 1 rfl (by simp)))
  have e02 : ∀ w', (Ext W0) w' → w'.cell? ⟨w.heap.size, 2, none⟩ = some (.int .i64 c) := fun w' h => h.cellOf (by rw [hW0]; exact ((Ext.refl _).alloc _).cellOf (boxed 2 rfl (by simp)))
  have e03 : ∀ w', (Ext W0) w' → w'.cell? ⟨w.heap.size, 3, none⟩ = some (.int .i64 d) := fun w' h => h.cellOf (by rw [hW0]; exact ((Ext.refl _).alloc _).cellOf (boxed 3 rfl (by simp)))
  have e04 : ∀ w', (Ext W0) w' → w'.cell? ⟨w.heap.size, 4, none⟩ = some (.int .i64 n) := fun w' h => h.cellOf (by rw [hW0]; exact ((Ext.refl _).alloc _).cellOf (boxed 4 rfl (by simp)))
  have e10 : ∀ w', (Ext W0) w' → w'.cell? ⟨w.heap.size + 1, 0, none⟩ = some (.int .i64 p) := fun w' h => h.cellOf (by rw [hW0]; exact boxed 0 rfl (by simp))
  have e11 : ∀ w', (Ext W0) w' → w'.cell? ⟨w.heap.size + 1, 1, none⟩ = some (.int .i64 q) := fun w' h => h.cellOf (by rw [hW0]; exact boxed 1 rfl (by simp))
  have e12 : ∀ w', (Ext W0) w' → w'.cell? ⟨w.heap.size + 1, 2, none⟩ = some (.int .i64 u) := fun w' h => h.cellOf (by rw [hW0]; exact boxed 2 rfl (by simp))
  have e13 : ∀ w', (Ext W0) w' → w'.cell? ⟨w.heap.size + 1, 3, none⟩ = some (.int .i64 v) := fun w' h => h.cellOf (by rw [hW0]; exact boxed 3 rfl (by simp))
  have e14 : ∀ w', (Ext W0) w' → w'.cell? ⟨w.heap.size + 1, 4, none⟩ = some (.int .i64 m) := fun w' h => h.cellOf (by rw [hW0]; exact boxed 4 rfl (by simp))
  go_enter Try.func16, Try.ntmps16
  go_wp2_with fail
  rw [← hW0]
  clear hW0
  refine (hullValid_any _ _ _ _ _ _).mono ?_
  rintro e w1 ⟨rfl, hz⟩
  replace hz : Ext W0 w1 := hz
  cases h1 : hlB a b c d n
  · have HB := Lib.hid (h2_no1 (p := p) (q := q) (u := u) (v := v) (m := m) h1)
    have HV := Lib.hid (show ovV a b c d n p q u v m = 0 from if_no HB.out)
    have HC := Lib.hid (show h2C a b c d n p q u v m = 1 from if_no HB.out)
    go_wp2
    go_ret2
    exact ⟨ret_int2 HV.out HC.out, hX.trans hz⟩
  have g10 := e10 w1 hz; have g11 := e11 w1 hz; have g12 := e12 w1 hz; have g13 := e13 w1 hz; have g14 := e14 w1 hz
  go_wp2_with fail
  refine (hullValid_any _ _ _ _ _ _).mono ?_
  rintro e w2 ⟨rfl, hy⟩
  replace hz := hz.trans hy
  clear hy g10 g11 g12 g13 g14
  cases h2 : hlB p q u v m
  · have HB := Lib.hid (h2_no2 (a := a) (b := b) (c := c) (d := d) (n := n) h2)
    have HV := Lib.hid (show ovV a b c d n p q u v m = 0 from if_no HB.out)
    have HC := Lib.hid (show h2C a b c d n p q u v m = 1 from if_no HB.out)
    go_wp2
    go_ret2
    exact ⟨ret_int2 HV.out HC.out, hX.trans hz⟩
  have HB := Lib.hid (h2_yes h1 h2)
  have HC := Lib.hid (show h2C a b c d n p q u v m = 0 from if_yes HB.out)
  have HV := Lib.hid (show ovV a b c d n p q u v m = ovN (caB a b c d n p q) (caB p q u v m a b) from if_yes HB.out)
  have PA := Lib.hid (fun w => relationTo_any a b c d n p q u v m w h1 h2)
  generalize ovN (caB a b c d n p q) (caB p q u v m a b) = K at *
  have g00 := e00 w2 hz; have g01 := e01 w2 hz; have g02 := e02 w2 hz; have g03 := e03 w2 hz; have g04 := e04 w2 hz
  have g10 := e10 w2 hz; have g11 := e11 w2 hz; have g12 := e12 w2 hz; have g13 := e13 w2 hz; have g14 := e14 w2 hz
  go_wp2_with fail
  refine (PA.out _).mono ?_
  rintro e w3 ⟨rfl, hy⟩
  go_wp2
  go_ret2
  exact ⟨ret_int2 HV.out HC.out, hX.trans (hz.trans hy)⟩

set_option maxHeartbeats 2000000 in
theorem overlapOf_spec (a b c d n p q u v m : Int) (w : World) : Calls Try.prog 17 #[Hv a b c d n, Hv p q u v m] w fun e w' => e = .returned (.tuple #[.int .i64 (ovV a b c d n p q u v m), .int .i64 (h2C a b c d n p q u v m)]) ∧ Ext w w' := by
  obtain ⟨W0, hW0⟩ : ∃ W0, W0 = (w.alloc (.cells #[.int .i64 a, .int .i64 b, .int .i64 c, .int .i64 d, .int .i64 n] 27)).alloc (.cells #[.int .i64 p, .int .i64 q, .int .i64 u, .int .i64 v, .int .i64 m] 27) := ⟨_, rfl⟩
  have hX : Ext w W0 := hW0 ▸ (((Ext.refl w).alloc _).alloc _)
  have hs0 : W0.heap.size = w.heap.size + 1 + 1 := by rw [hW0]; simp
  have e00 : ∀ w', (Ext W0) w' → w'.cell? ⟨w.heap.size, 0, none⟩ = some (.int .i64 a) := fun w' h => h.cellOf (by rw [hW0]; exact ((Ext.refl _).alloc _).cellOf (boxed 0 rfl (by simp)))
  have e01 : ∀ w', (Ext W0) w' → w'.cell? ⟨w.heap.size, 1, none⟩ = some (.int .i64 b) := fun w' h => h.cellOf (by rw [hW0]; exact ((Ext.refl _).alloc _).cellOf (boxed 1 rfl (by simp)))
  have e02 : ∀ w', (Ext W0) w' → w'.cell? ⟨w.heap.size, 2, none⟩ = some (.int .i64 c) := fun w' h => h.cellOf (by rw [hW0]; exact ((Ext.refl _).alloc _).cellOf (boxed 2 rfl (by simp)))
  have e03 : ∀ w', (Ext W0) w' → w'.cell? ⟨w.heap.size, 3, none⟩ = some (.int .i64 d) := fun w' h => h.cellOf (by rw [hW0]; exact ((Ext.refl _).alloc _).cellOf (boxed 3 rfl (by simp)))
  have e04 : ∀ w', (Ext W0) w' → w'.cell? ⟨w.heap.size, 4, none⟩ = some (.int .i64 n) := fun w' h => h.cellOf (by rw [hW0]; exact ((Ext.refl _).alloc _).cellOf (boxed 4 rfl (by simp)))
  have e10 : ∀ w', (Ext W0) w' → w'.cell? ⟨w.heap.size + 1, 0, none⟩ = some (.int .i64 p) := fun w' h => h.cellOf (by rw [hW0]; exact boxed 0 rfl (by simp))
  have e11 : ∀ w', (Ext W0) w' → w'.cell? ⟨w.heap.size + 1, 1, none⟩ = some (.int .i64 q) := fun w' h => h.cellOf (by rw [hW0]; exact boxed 1 rfl (by simp))
  have e12 : ∀ w', (Ext W0) w' → w'.cell? ⟨w.heap.size + 1, 2, none⟩ = some (.int .i64 u) := fun w' h => h.cellOf (by rw [hW0]; exact boxed 2 rfl (by simp))
  have e13 : ∀ w', (Ext W0) w' → w'.cell? ⟨w.heap.size + 1, 3, none⟩ = some (.int .i64 v) := fun w' h => h.cellOf (by rw [hW0]; exact boxed 3 rfl (by simp))
  have e14 : ∀ w', (Ext W0) w' → w'.cell? ⟨w.heap.size + 1, 4, none⟩ = some (.int .i64 m) := fun w' h => h.cellOf (by rw [hW0]; exact boxed 4 rfl (by simp))
  go_enter Try.func17, Try.ntmps17
  go_wp2_with fail
  rw [← hW0]
  clear hW0
  refine (isHull_spec _ _ _ _ _ _).mono ?_
  rintro e w1 ⟨rfl, hz⟩
  replace hz : Ext W0 w1 := hz
  cases h1 : hlB a b c d n
  · have HB := Lib.hid (h2_no1 (p := p) (q := q) (u := u) (v := v) (m := m) h1)
    have HV := Lib.hid (show ovV a b c d n p q u v m = 0 from if_no HB.out)
    have HC := Lib.hid (show h2C a b c d n p q u v m = 1 from if_no HB.out)
    go_wp2
    go_ret2
    exact ⟨ret_int2 HV.out HC.out, hX.trans hz⟩
  have g10 := e10 w1 hz; have g11 := e11 w1 hz; have g12 := e12 w1 hz; have g13 := e13 w1 hz; have g14 := e14 w1 hz
  go_wp2_with fail
  refine (isHull_spec _ _ _ _ _ _).mono ?_
  rintro e w2 ⟨rfl, hy⟩
  replace hz := hz.trans hy
  clear hy g10 g11 g12 g13 g14
  cases h2 : hlB p q u v m
  · have HB := Lib.hid (h2_no2 (a := a) (b := b) (c := c) (d := d) (n := n) h2)
    have HV := Lib.hid (show ovV a b c d n p q u v m = 0 from if_no HB.out)
    have HC := Lib.hid (show h2C a b c d n p q u v m = 1 from if_no HB.out)
    go_wp2
    go_ret2
    exact ⟨ret_int2 HV.out HC.out, hX.trans hz⟩
  have HB := Lib.hid (h2_yes h1 h2)
  have HC := Lib.hid (show h2C a b c d n p q u v m = 0 from if_yes HB.out)
  have HV := Lib.hid (show ovV a b c d n p q u v m = ovN (caB a b c d n p q) (caB p q u v m a b) from if_yes HB.out)
  have PA := Lib.hid (fun w => overlapS_any a b c d n p q u v m w h1 h2)
  generalize ovN (caB a b c d n p q) (caB p q u v m a b) = K at *
  have g00 := e00 w2 hz; have g01 := e01 w2 hz; have g02 := e02 w2 hz; have g03 := e03 w2 hz; have g04 := e04 w2 hz
  have g10 := e10 w2 hz; have g11 := e11 w2 hz; have g12 := e12 w2 hz; have g13 := e13 w2 hz; have g14 := e14 w2 hz
  go_wp2_with fail
  refine (PA.out _).mono ?_
  rintro e w3 ⟨rfl, hy⟩
  go_wp2
  go_ret2
  exact ⟨ret_int2 HV.out HC.out, hX.trans (hz.trans hy)⟩

end Go.Proofs.Ytdcnfeimfpafiaa.Hul
