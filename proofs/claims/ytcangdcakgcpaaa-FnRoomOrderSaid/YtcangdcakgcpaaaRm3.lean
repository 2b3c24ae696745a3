/- What InsideBoat and RoomBetween answer (chapter 11), both (tools/mkrm3.py). -/
import Derived.Test.YtcangdcakgcpaaaRm2
namespace Go.Proofs.Ytcangdcakgcpaaa.Rom
open Go.ChangeShapes Go.WideShapes Go.ChangeAt Go.RowKit
open Go.Proofs.Ytcangdcakgcpaaa.Num Go.Proofs.Ytcangdcakgcpaaa.Kit Go.Proofs.Ytcangdcakgcpaaa.Pts Go.Proofs.Ytcangdcakgcpaaa.Seg Go.Proofs.Ytcangdcakgcpaaa.Wnd Go.Proofs.Ytcangdcakgcpaaa.Hul
open Go.Proofs.Ytcangdcakgcpaaa.Crs (MkV)
set_option linter.unusedVariables false
set_option linter.unusedSimpArgs false

theorem pt_co {x y : Int} (h : ptB x y = true) : Co x ∧ Co y := ptB_yes h
set_option maxHeartbeats 1000000 in
theorem valid11_any (N : ByteArray) (X Y S Z a b c d n p q u v m : Int) (w : World) :
    Calls Try.prog 62 #[MkV N X Y S Z, Hv a b c d n, Hv p q u v m] w fun e w' => e = .returned (.bool (ibB X Y a b c d n p q u v m)) ∧ Ext w w' := by
  obtain ⟨W0, hW0⟩ : ∃ W0, W0 = ((w.alloc (.cells #[.string N, .int .i64 X, .int .i64 Y, .int .i64 S, .int .i64 Z] 45)).alloc (.cells #[.int .i64 a, .int .i64 b, .int .i64 c, .int .i64 d, .int .i64 n] 39)).alloc (.cells #[.int .i64 p, .int .i64 q, .int .i64 u, .int .i64 v, .int .i64 m] 39) := ⟨_, rfl⟩
  have hX : Ext w W0 := hW0 ▸ ((((Ext.refl w).alloc _).alloc _).alloc _)
  have hs0 : W0.heap.size = w.heap.size + 1 + 1 + 1 := by rw [hW0]; simp
  have e00 : ∀ w', (Ext W0) w' → w'.cell? ⟨w.heap.size, 0, none⟩ = some (.string N) := fun w' h => h.cellOf (by rw [hW0]; exact (((Ext.refl _).alloc _).alloc _).cellOf (boxed 0 rfl (by simp)))
  have e01 : ∀ w', (Ext W0) w' → w'.cell? ⟨w.heap.size, 1, none⟩ = some (.int .i64 X) := fun w' h => h.cellOf (by rw [hW0]; exact (((Ext.refl _).alloc _).alloc _).cellOf (boxed 1 rfl (by simp)))
  have e02 : ∀ w', (Ext W0) w' → w'.cell? ⟨w.heap.size, 2, none⟩ = some (.int .i64 Y) := fun w' h => h.cellOf (by rw [hW0]; exact (((Ext.refl _).alloc _).alloc _).cellOf (boxed 2 rfl (by simp)))
  have e03 : ∀ w', (Ext W0) w' → w'.cell? ⟨w.heap.size, 3, none⟩ = some (.int .i64 S) := fun w' h => h.cellOf (by rw [hW0]; exact (((Ext.refl _).alloc _).alloc _).cellOf (boxed 3 rfl (by simp)))
  have e04 : ∀ w', (Ext W0) w' → w'.cell? ⟨w.heap.size, 4, none⟩ = some (.int .i64 Z) := fun w' h => h.cellOf (by rw [hW0]; exact (((Ext.refl _).alloc _).alloc _).cellOf (boxed 4 rfl (by simp)))
  have e10 : ∀ w', (Ext W0) w' → w'.cell? ⟨w.heap.size + 1, 0, none⟩ = some (.int .i64 a) := fun w' h => h.cellOf (by rw [hW0]; exact ((Ext.refl _).alloc _).cellOf (boxed 0 rfl (by simp)))
  have e11 : ∀ w', (Ext W0) w' → w'.cell? ⟨w.heap.size + 1, 1, none⟩ = some (.int .i64 b) := fun w' h => h.cellOf (by rw [hW0]; exact ((Ext.refl _).alloc _).cellOf (boxed 1 rfl (by simp)))
  have e12 : ∀ w', (Ext W0) w' → w'.cell? ⟨w.heap.size + 1, 2, none⟩ = some (.int .i64 c) := fun w' h => h.cellOf (by rw [hW0]; exact ((Ext.refl _).alloc _).cellOf (boxed 2 rfl (by simp)))
  have e13 : ∀ w', (Ext W0) w' → w'.cell? ⟨w.heap.size + 1, 3, none⟩ = some (.int .i64 d) := fun w' h => h.cellOf (by rw [hW0]; exact ((Ext.refl _).alloc _).cellOf (boxed 3 rfl (by simp)))
  have e14 : ∀ w', (Ext W0) w' → w'.cell? ⟨w.heap.size + 1, 4, none⟩ = some (.int .i64 n) := fun w' h => h.cellOf (by rw [hW0]; exact ((Ext.refl _).alloc _).cellOf (boxed 4 rfl (by simp)))
  have e20 : ∀ w', (Ext W0) w' → w'.cell? ⟨w.heap.size + 1 + 1, 0, none⟩ = some (.int .i64 p) := fun w' h => h.cellOf (by rw [hW0]; exact boxed 0 rfl (by simp))
  have e21 : ∀ w', (Ext W0) w' → w'.cell? ⟨w.heap.size + 1 + 1, 1, none⟩ = some (.int .i64 q) := fun w' h => h.cellOf (by rw [hW0]; exact boxed 1 rfl (by simp))
  have e22 : ∀ w', (Ext W0) w' → w'.cell? ⟨w.heap.size + 1 + 1, 2, none⟩ = some (.int .i64 u) := fun w' h => h.cellOf (by rw [hW0]; exact boxed 2 rfl (by simp))
  have e23 : ∀ w', (Ext W0) w' → w'.cell? ⟨w.heap.size + 1 + 1, 3, none⟩ = some (.int .i64 v) := fun w' h => h.cellOf (by rw [hW0]; exact boxed 3 rfl (by simp))
  have e24 : ∀ w', (Ext W0) w' → w'.cell? ⟨w.heap.size + 1 + 1, 4, none⟩ = some (.int .i64 m) := fun w' h => h.cellOf (by rw [hW0]; exact boxed 4 rfl (by simp))
  go_enter Try.func62, Try.ntmps62
  go_wp2_with fail
  rw [← hW0]
  clear hW0
  refine (isPoint_spec _ _ _).mono ?_
  rintro e w1 ⟨rfl, hz⟩
  replace hz : Ext W0 w1 := hz
  cases h0 : ptB X Y
  · have HB := Lib.hid (ib_no0 (a := a) (b := b) (c := c) (d := d) (n := n) (p := p) (q := q) (u := u) (v := v) (m := m) h0)
    go_wp2
    go_ret
    exact ⟨ret_bool HB.out, hX.trans hz⟩
  have g10 := e10 w1 hz; have g11 := e11 w1 hz; have g12 := e12 w1 hz; have g13 := e13 w1 hz; have g14 := e14 w1 hz
  go_wp2_with fail
  refine (isHull_spec _ _ _ _ _ _).mono ?_
  rintro e w2 ⟨rfl, hy⟩
  replace hz := hz.trans hy
  clear hy g10 g11 g12 g13 g14
  cases h1 : hlB a b c d n
  · have HB := Lib.hid (ib_no1 (X := X) (Y := Y) (p := p) (q := q) (u := u) (v := v) (m := m) h1)
    go_wp2
    go_ret
    exact ⟨ret_bool HB.out, hX.trans hz⟩
  have g20 := e20 w2 hz; have g21 := e21 w2 hz; have g22 := e22 w2 hz; have g23 := e23 w2 hz; have g24 := e24 w2 hz
  go_wp2_with fail
  refine (isHull_spec _ _ _ _ _ _).mono ?_
  rintro e w3 ⟨rfl, hy⟩
  replace hz := hz.trans hy
  clear hy g20 g21 g22 g23 g24
  have HB := Lib.hid (show ibB X Y a b c d n p q u v m = hlB p q u v m by
    cases h2 : hlB p q u v m
    · exact ib_no2 h2
    · exact ib_yes h0 h1 h2)
  generalize hlB p q u v m = L at *
  go_wp2
  go_ret
  exact ⟨ret_bool HB.out, hX.trans hz⟩

set_option maxHeartbeats 2000000 in
theorem insideBoat_impl (N : ByteArray) (X Y S Z a b c d n p q u v m : Int) (w : World) :
    Calls Try.prog 24 #[MkV N X Y S Z, Hv a b c d n, Hv p q u v m] w fun e w' => e = .returned (.tuple #[.int .i64 (ibV X Y a b c d n p q u v m), .int .i64 (ibC X Y a b c d n p q u v m)]) ∧ Ext w w' := by
  obtain ⟨W0, hW0⟩ : ∃ W0, W0 = ((w.alloc (.cells #[.string N, .int .i64 X, .int .i64 Y, .int .i64 S, .int .i64 Z] 45)).alloc (.cells #[.int .i64 a, .int .i64 b, .int .i64 c, .int .i64 d, .int .i64 n] 39)).alloc (.cells #[.int .i64 p, .int .i64 q, .int .i64 u, .int .i64 v, .int .i64 m] 39) := ⟨_, rfl⟩
  have hX : Ext w W0 := hW0 ▸ ((((Ext.refl w).alloc _).alloc _).alloc _)
  have hs0 : W0.heap.size = w.heap.size + 1 + 1 + 1 := by rw [hW0]; simp
  have e00 : ∀ w', (Ext W0) w' → w'.cell? ⟨w.heap.size, 0, none⟩ = some (.string N) := fun w' h => h.cellOf (by rw [hW0]; exact (((Ext.refl _).alloc _).alloc _).cellOf (boxed 0 rfl (by simp)))
  have e01 : ∀ w', (Ext W0) w' → w'.cell? ⟨w.heap.size, 1, none⟩ = some (.int .i64 X) := fun w' h => h.cellOf (by rw [hW0]; exact (((Ext.refl _).alloc _).alloc _).cellOf (boxed 1 rfl (by simp)))
  have e02 : ∀ w', (Ext W0) w' → w'.cell? ⟨w.heap.size, 2, none⟩ = some (.int .i64 Y) := fun w' h => h.cellOf (by rw [hW0]; exact (((Ext.refl _).alloc _).alloc _).cellOf (boxed 2 rfl (by simp)))
  have e03 : ∀ w', (Ext W0) w' → w'.cell? ⟨w.heap.size, 3, none⟩ = some (.int .i64 S) := fun w' h => h.cellOf (by rw [hW0]; exact (((Ext.refl _).alloc _).alloc _).cellOf (boxed 3 rfl (by simp)))
  have e04 : ∀ w', (Ext W0) w' → w'.cell? ⟨w.heap.size, 4, none⟩ = some (.int .i64 Z) := fun w' h => h.cellOf (by rw [hW0]; exact (((Ext.refl _).alloc _).alloc _).cellOf (boxed 4 rfl (by simp)))
  have e10 : ∀ w', (Ext W0) w' → w'.cell? ⟨w.heap.size + 1, 0, none⟩ = some (.int .i64 a) := fun w' h => h.cellOf (by rw [hW0]; exact ((Ext.refl _).alloc _).cellOf (boxed 0 rfl (by simp)))
  have e11 : ∀ w', (Ext W0) w' → w'.cell? ⟨w.heap.size + 1, 1, none⟩ = some (.int .i64 b) := fun w' h => h.cellOf (by rw [hW0]; exact ((Ext.refl _).alloc _).cellOf (boxed 1 rfl (by simp)))
  have e12 : ∀ w', (Ext W0) w' → w'.cell? ⟨w.heap.size + 1, 2, none⟩ = some (.int .i64 c) := fun w' h => h.cellOf (by rw [hW0]; exact ((Ext.refl _).alloc _).cellOf (boxed 2 rfl (by simp)))
  have e13 : ∀ w', (Ext W0) w' → w'.cell? ⟨w.heap.size + 1, 3, none⟩ = some (.int .i64 d) := fun w' h => h.cellOf (by rw [hW0]; exact ((Ext.refl _).alloc _).cellOf (boxed 3 rfl (by simp)))
  have e14 : ∀ w', (Ext W0) w' → w'.cell? ⟨w.heap.size + 1, 4, none⟩ = some (.int .i64 n) := fun w' h => h.cellOf (by rw [hW0]; exact ((Ext.refl _).alloc _).cellOf (boxed 4 rfl (by simp)))
  have e20 : ∀ w', (Ext W0) w' → w'.cell? ⟨w.heap.size + 1 + 1, 0, none⟩ = some (.int .i64 p) := fun w' h => h.cellOf (by rw [hW0]; exact boxed 0 rfl (by simp))
  have e21 : ∀ w', (Ext W0) w' → w'.cell? ⟨w.heap.size + 1 + 1, 1, none⟩ = some (.int .i64 q) := fun w' h => h.cellOf (by rw [hW0]; exact boxed 1 rfl (by simp))
  have e22 : ∀ w', (Ext W0) w' → w'.cell? ⟨w.heap.size + 1 + 1, 2, none⟩ = some (.int .i64 u) := fun w' h => h.cellOf (by rw [hW0]; exact boxed 2 rfl (by simp))
  have e23 : ∀ w', (Ext W0) w' → w'.cell? ⟨w.heap.size + 1 + 1, 3, none⟩ = some (.int .i64 v) := fun w' h => h.cellOf (by rw [hW0]; exact boxed 3 rfl (by simp))
  have e24 : ∀ w', (Ext W0) w' → w'.cell? ⟨w.heap.size + 1 + 1, 4, none⟩ = some (.int .i64 m) := fun w' h => h.cellOf (by rw [hW0]; exact boxed 4 rfl (by simp))
  go_enter Try.func24, Try.ntmps24
  go_wp2_with fail
  rw [← hW0]
  clear hW0
  refine (isValid_any _ _ _).mono ?_
  rintro e w1 ⟨rfl, hz⟩
  replace hz : Ext W0 w1 := hz
  cases h0 : ptB X Y
  · have HB := Lib.hid (ib_no0 (a := a) (b := b) (c := c) (d := d) (n := n) (p := p) (q := q) (u := u) (v := v) (m := m) h0)
    have HV := Lib.hid (show ibV X Y a b c d n p q u v m = 0 from if_no HB.out)
    have HC := Lib.hid (show ibC X Y a b c d n p q u v m = 1 from if_no HB.out)
    go_wp2
    go_ret2
    exact ⟨ret_int2 HV.out HC.out, hX.trans hz⟩
  have g10 := e10 w1 hz; have g11 := e11 w1 hz; have g12 := e12 w1 hz; have g13 := e13 w1 hz; have g14 := e14 w1 hz
  go_wp2_with fail
  refine (hullValid_any _ _ _ _ _ _).mono ?_
  rintro e w2 ⟨rfl, hy⟩
  replace hz := hz.trans hy
  clear hy g10 g11 g12 g13 g14
  cases h1 : hlB a b c d n
  · have HB := Lib.hid (ib_no1 (X := X) (Y := Y) (p := p) (q := q) (u := u) (v := v) (m := m) h1)
    have HV := Lib.hid (show ibV X Y a b c d n p q u v m = 0 from if_no HB.out)
    have HC := Lib.hid (show ibC X Y a b c d n p q u v m = 1 from if_no HB.out)
    go_wp2
    go_ret2
    exact ⟨ret_int2 HV.out HC.out, hX.trans hz⟩
  have g20 := e20 w2 hz; have g21 := e21 w2 hz; have g22 := e22 w2 hz; have g23 := e23 w2 hz; have g24 := e24 w2 hz
  go_wp2_with fail
  refine (hullValid_any _ _ _ _ _ _).mono ?_
  rintro e w3 ⟨rfl, hy⟩
  replace hz := hz.trans hy
  clear hy g20 g21 g22 g23 g24
  cases h2 : hlB p q u v m
  · have HB := Lib.hid (ib_no2 (X := X) (Y := Y) (a := a) (b := b) (c := c) (d := d) (n := n) h2)
    have HV := Lib.hid (show ibV X Y a b c d n p q u v m = 0 from if_no HB.out)
    have HC := Lib.hid (show ibC X Y a b c d n p q u v m = 1 from if_no HB.out)
    go_wp2
    go_ret2
    exact ⟨ret_int2 HV.out HC.out, hX.trans hz⟩
  have HB := Lib.hid (ib_yes h0 h1 h2)
  have HV := Lib.hid (show ibV X Y a b c d n p q u v m = inN a b p q X Y from if_yes HB.out)
  have HC := Lib.hid (show ibC X Y a b c d n p q u v m = 0 from if_yes HB.out)
  have PA := Lib.hid (fun w => insideHull_any N X Y S Z a b c d n p q u v m w (pt_co h0).1 (pt_co h0).2 (hlB_yes h1).1.1 (hlB_yes h1).1.2 (hlB_yes h2).1.1 (hlB_yes h2).1.2)
  generalize inN a b p q X Y = K at *
  have g00 := e00 w3 hz; have g01 := e01 w3 hz; have g02 := e02 w3 hz; have g03 := e03 w3 hz; have g04 := e04 w3 hz
  have g10 := e10 w3 hz; have g11 := e11 w3 hz; have g12 := e12 w3 hz; have g13 := e13 w3 hz; have g14 := e14 w3 hz
  have g20 := e20 w3 hz; have g21 := e21 w3 hz; have g22 := e22 w3 hz; have g23 := e23 w3 hz; have g24 := e24 w3 hz
  go_wp2_with fail
  refine (PA.out _).mono ?_
  rintro e w9 ⟨rfl, hy⟩
  go_wp2
  go_ret2
  exact ⟨ret_int2 HV.out HC.out, hX.trans (hz.trans hy)⟩

set_option maxHeartbeats 2000000 in
theorem insideBoat_spec (N : ByteArray) (X Y S Z a b c d n p q u v m : Int) (w : World) :
    Calls Try.prog 25 #[MkV N X Y S Z, Hv a b c d n, Hv p q u v m] w fun e w' => e = .returned (.tuple #[.int .i64 (ibV X Y a b c d n p q u v m), .int .i64 (ibC X Y a b c d n p q u v m)]) ∧ Ext w w' := by
  obtain ⟨W0, hW0⟩ : ∃ W0, W0 = ((w.alloc (.cells #[.string N, .int .i64 X, .int .i64 Y, .int .i64 S, .int .i64 Z] 45)).alloc (.cells #[.int .i64 a, .int .i64 b, .int .i64 c, .int .i64 d, .int .i64 n] 39)).alloc (.cells #[.int .i64 p, .int .i64 q, .int .i64 u, .int .i64 v, .int .i64 m] 39) := ⟨_, rfl⟩
  have hX : Ext w W0 := hW0 ▸ ((((Ext.refl w).alloc _).alloc _).alloc _)
  have hs0 : W0.heap.size = w.heap.size + 1 + 1 + 1 := by rw [hW0]; simp
  have e00 : ∀ w', (Ext W0) w' → w'.cell? ⟨w.heap.size, 0, none⟩ = some (.string N) := fun w' h => h.cellOf (by rw [hW0]; exact (((Ext.refl _).alloc _).alloc _).cellOf (boxed 0 rfl (by simp)))
  have e01 : ∀ w', (Ext W0) w' → w'.cell? ⟨w.heap.size, 1, none⟩ = some (.int .i64 X) := fun w' h => h.cellOf (by rw [hW0]; exact (((Ext.refl _).alloc _).alloc _).cellOf (boxed 1 rfl (by simp)))
  have e02 : ∀ w', (Ext W0) w' → w'.cell? ⟨w.heap.size, 2, none⟩ = some (.int .i64 Y) := fun w' h => h.cellOf (by rw [hW0]; exact (((Ext.refl _).alloc _).alloc _).cellOf (boxed 2 rfl (by simp)))
  have e03 : ∀ w', (Ext W0) w' → w'.cell? ⟨w.heap.size, 3, none⟩ = some (.int .i64 S) := fun w' h => h.cellOf (by rw [hW0]; exact (((Ext.refl _).alloc _).alloc _).cellOf (boxed 3 rfl (by simp)))
  have e04 : ∀ w', (Ext W0) w' → w'.cell? ⟨w.heap.size, 4, none⟩ = some (.int .i64 Z) := fun w' h => h.cellOf (by rw [hW0]; exact (((Ext.refl _).alloc _).alloc _).cellOf (boxed 4 rfl (by simp)))
  have e10 : ∀ w', (Ext W0) w' → w'.cell? ⟨w.heap.size + 1, 0, none⟩ = some (.int .i64 a) := fun w' h => h.cellOf (by rw [hW0]; exact ((Ext.refl _).alloc _).cellOf (boxed 0 rfl (by simp)))
  have e11 : ∀ w', (Ext W0) w' → w'.cell? ⟨w.heap.size + 1, 1, none⟩ = some (.int .i64 b) := fun w' h => h.cellOf (by rw [hW0]; exact ((Ext.refl _).alloc _).cellOf (boxed 1 rfl (by simp)))
  have e12 : ∀ w', (Ext W0) w' → w'.cell? ⟨w.heap.size + 1, 2, none⟩ = some (.int .i64 c) := fun w' h => h.cellOf (by rw [hW0]; exact ((Ext.refl _).alloc _).cellOf (boxed 2 rfl (by simp)))
  have e13 : ∀ w', (Ext W0) w' → w'.cell? ⟨w.heap.size + 1, 3, none⟩ = some (.int .i64 d) := fun w' h => h.cellOf (by rw [hW0]; exact ((Ext.refl _).alloc _).cellOf (boxed 3 rfl (by simp)))
  have e14 : ∀ w', (Ext W0) w' → w'.cell? ⟨w.heap.size + 1, 4, none⟩ = some (.int .i64 n) := fun w' h => h.cellOf (by rw [hW0]; exact ((Ext.refl _).alloc _).cellOf (boxed 4 rfl (by simp)))
  have e20 : ∀ w', (Ext W0) w' → w'.cell? ⟨w.heap.size + 1 + 1, 0, none⟩ = some (.int .i64 p) := fun w' h => h.cellOf (by rw [hW0]; exact boxed 0 rfl (by simp))
  have e21 : ∀ w', (Ext W0) w' → w'.cell? ⟨w.heap.size + 1 + 1, 1, none⟩ = some (.int .i64 q) := fun w' h => h.cellOf (by rw [hW0]; exact boxed 1 rfl (by simp))
  have e22 : ∀ w', (Ext W0) w' → w'.cell? ⟨w.heap.size + 1 + 1, 2, none⟩ = some (.int .i64 u) := fun w' h => h.cellOf (by rw [hW0]; exact boxed 2 rfl (by simp))
  have e23 : ∀ w', (Ext W0) w' → w'.cell? ⟨w.heap.size + 1 + 1, 3, none⟩ = some (.int .i64 v) := fun w' h => h.cellOf (by rw [hW0]; exact boxed 3 rfl (by simp))
  have e24 : ∀ w', (Ext W0) w' → w'.cell? ⟨w.heap.size + 1 + 1, 4, none⟩ = some (.int .i64 m) := fun w' h => h.cellOf (by rw [hW0]; exact boxed 4 rfl (by simp))
  go_enter Try.func25, Try.ntmps25
  go_wp2_with fail
  rw [← hW0]
  clear hW0
  refine (valid11_any _ _ _ _ _ _ _ _ _ _ _ _ _ _ _ _).mono ?_
  rintro e w1 ⟨rfl, hz⟩
  replace hz : Ext W0 w1 := hz
  cases hb : ibB X Y a b c d n p q u v m
  · have HB := Lib.hid hb
    have HV := Lib.hid (show ibV X Y a b c d n p q u v m = 0 from if_no HB.out)
    have HC := Lib.hid (show ibC X Y a b c d n p q u v m = 1 from if_no HB.out)
    go_wp2
    go_ret2
    exact ⟨ret_int2 HV.out HC.out, hX.trans hz⟩
  obtain ⟨h0, h1, h2⟩ := ib_all hb
  have HB := Lib.hid hb
  clear hb
  have HV := Lib.hid (show ibV X Y a b c d n p q u v m = inN a b p q X Y from if_yes HB.out)
  have HC := Lib.hid (show ibC X Y a b c d n p q u v m = 0 from if_yes HB.out)
  have PA := Lib.hid (fun w => insideS_any X Y a b c d n p q u v m w (pt_co h0).1 (pt_co h0).2 (hlB_yes h1).1.1 (hlB_yes h1).1.2 (hlB_yes h2).1.1 (hlB_yes h2).1.2)
  generalize inN a b p q X Y = K at *
  have g00 := e00 w1 hz; have g01 := e01 w1 hz; have g02 := e02 w1 hz; have g03 := e03 w1 hz; have g04 := e04 w1 hz
  have g10 := e10 w1 hz; have g11 := e11 w1 hz; have g12 := e12 w1 hz; have g13 := e13 w1 hz; have g14 := e14 w1 hz
  have g20 := e20 w1 hz; have g21 := e21 w1 hz; have g22 := e22 w1 hz; have g23 := e23 w1 hz; have g24 := e24 w1 hz
  go_wp2_with fail
  refine (PA.out _).mono ?_
  rintro e w9 ⟨rfl, hy⟩
  go_wp2
  go_ret2
  exact ⟨ret_int2 HV.out HC.out, hX.trans (hz.trans hy)⟩

theorem rbI_done {n : Nat} {w F : World} {tmps : Array Value} {a b k : Int} (B : Box F n [.int .i64 a, .int .i64 b]) (hC : Ext w F) (h6 : tmps[8]? = some (.pointer (some ⟨n, 0, none⟩))) (h7 : tmps[9]? = some (.int .i64 k)) (X Y C : Int) (hX : X = a) (hY : Y = b) (hK : C = k) :
    bodyPost Try.prog Try.f20 (fun e w' => e = .returned (.tuple #[Pt X Y, .int .i64 C]) ∧ Ext w w') Exit.ret ⟨tmps, []⟩ F := by
  subst hX; subst hY; subst hK
  obtain ⟨⟨g0, g1⟩, _⟩ := B.two
  exact bodyPost_ret (v := .tuple #[Pt X Y, .int .i64 C]) (by simp [results, Try.results20, go_sem, h6, h7, g0, g1]) rfl ⟨rfl, hC⟩

set_option maxHeartbeats 4000000 in
theorem roomBetween_impl (x y : Int) (N : ByteArray) (X Y S Z a b c d n p q u v m : Int) (w : World) :
    Calls Try.prog 20 #[Pt x y, MkV N X Y S Z, Hv a b c d n, Hv p q u v m] w fun e w' => e = .returned (.tuple #[Pt (rbG x y X Y a b c d n p q u v m) (rbR x y X Y a b c d n p q u v m), .int .i64 (rbC x y X Y a b c d n p q u v m)]) ∧ Ext w w' := by
  obtain ⟨W0, hW0⟩ : ∃ W0, W0 = ((((w.alloc (.cells #[.int .i64 x, .int .i64 y] 25)).alloc (.cells #[.string N, .int .i64 X, .int .i64 Y, .int .i64 S, .int .i64 Z] 45)).alloc (.cells #[.int .i64 a, .int .i64 b, .int .i64 c, .int .i64 d, .int .i64 n] 39)).alloc (.cells #[.int .i64 p, .int .i64 q, .int .i64 u, .int .i64 v, .int .i64 m] 39)).alloc (.cells #[.int .i64 0, .int .i64 0] 49) := ⟨_, rfl⟩
  have hX : Ext w W0 := hW0 ▸ ((((((Ext.refl w).alloc _).alloc _).alloc _).alloc _).alloc _)
  have hs0 : W0.heap.size = w.heap.size + 1 + 1 + 1 + 1 + 1 := by rw [hW0]; simp
  have e00 : ∀ w', (Ext W0) w' → w'.cell? ⟨w.heap.size, 0, none⟩ = some (.int .i64 x) := fun w' h => h.cellOf (by rw [hW0]; exact (((((Ext.refl _).alloc _).alloc _).alloc _).alloc _).cellOf (boxed 0 rfl (by simp)))
  have e01 : ∀ w', (Ext W0) w' → w'.cell? ⟨w.heap.size, 1, none⟩ = some (.int .i64 y) := fun w' h => h.cellOf (by rw [hW0]; exact (((((Ext.refl _).alloc _).alloc _).alloc _).alloc _).cellOf (boxed 1 rfl (by simp)))
  have e10 : ∀ w', (Ext W0) w' → w'.cell? ⟨w.heap.size + 1, 0, none⟩ = some (.string N) := fun w' h => h.cellOf (by rw [hW0]; exact ((((Ext.refl _).alloc _).alloc _).alloc _).cellOf (boxed 0 rfl (by simp)))
  have e11 : ∀ w', (Ext W0) w' → w'.cell? ⟨w.heap.size + 1, 1, none⟩ = some (.int .i64 X) := fun w' h => h.cellOf (by rw [hW0]; exact ((((Ext.refl _).alloc _).alloc _).alloc _).cellOf (boxed 1 rfl (by simp)))
  have e12 : ∀ w', (Ext W0) w' → w'.cell? ⟨w.heap.size + 1, 2, none⟩ = some (.int .i64 Y) := fun w' h => h.cellOf (by rw [hW0]; exact ((((Ext.refl _).alloc _).alloc _).alloc _).cellOf (boxed 2 rfl (by simp)))
  have e13 : ∀ w', (Ext W0) w' → w'.cell? ⟨w.heap.size + 1, 3, none⟩ = some (.int .i64 S) := fun w' h => h.cellOf (by rw [hW0]; exact ((((Ext.refl _).alloc _).alloc _).alloc _).cellOf (boxed 3 rfl (by simp)))
  have e14 : ∀ w', (Ext W0) w' → w'.cell? ⟨w.heap.size + 1, 4, none⟩ = some (.int .i64 Z) := fun w' h => h.cellOf (by rw [hW0]; exact ((((Ext.refl _).alloc _).alloc _).alloc _).cellOf (boxed 4 rfl (by simp)))
  have e20 : ∀ w', (Ext W0) w' → w'.cell? ⟨w.heap.size + 1 + 1, 0, none⟩ = some (.int .i64 a) := fun w' h => h.cellOf (by rw [hW0]; exact (((Ext.refl _).alloc _).alloc _).cellOf (boxed 0 rfl (by simp)))
  have e21 : ∀ w', (Ext W0) w' → w'.cell? ⟨w.heap.size + 1 + 1, 1, none⟩ = some (.int .i64 b) := fun w' h => h.cellOf (by rw [hW0]; exact (((Ext.refl _).alloc _).alloc _).cellOf (boxed 1 rfl (by simp)))
  have e22 : ∀ w', (Ext W0) w' → w'.cell? ⟨w.heap.size + 1 + 1, 2, none⟩ = some (.int .i64 c) := fun w' h => h.cellOf (by rw [hW0]; exact (((Ext.refl _).alloc _).alloc _).cellOf (boxed 2 rfl (by simp)))
  have e23 : ∀ w', (Ext W0) w' → w'.cell? ⟨w.heap.size + 1 + 1, 3, none⟩ = some (.int .i64 d) := fun w' h => h.cellOf (by rw [hW0]; exact (((Ext.refl _).alloc _).alloc _).cellOf (boxed 3 rfl (by simp)))
  have e24 : ∀ w', (Ext W0) w' → w'.cell? ⟨w.heap.size + 1 + 1, 4, none⟩ = some (.int .i64 n) := fun w' h => h.cellOf (by rw [hW0]; exact (((Ext.refl _).alloc _).alloc _).cellOf (boxed 4 rfl (by simp)))
  have e30 : ∀ w', (Ext W0) w' → w'.cell? ⟨w.heap.size + 1 + 1 + 1, 0, none⟩ = some (.int .i64 p) := fun w' h => h.cellOf (by rw [hW0]; exact ((Ext.refl _).alloc _).cellOf (boxed 0 rfl (by simp)))
  have e31 : ∀ w', (Ext W0) w' → w'.cell? ⟨w.heap.size + 1 + 1 + 1, 1, none⟩ = some (.int .i64 q) := fun w' h => h.cellOf (by rw [hW0]; exact ((Ext.refl _).alloc _).cellOf (boxed 1 rfl (by simp)))
  have e32 : ∀ w', (Ext W0) w' → w'.cell? ⟨w.heap.size + 1 + 1 + 1, 2, none⟩ = some (.int .i64 u) := fun w' h => h.cellOf (by rw [hW0]; exact ((Ext.refl _).alloc _).cellOf (boxed 2 rfl (by simp)))
  have e33 : ∀ w', (Ext W0) w' → w'.cell? ⟨w.heap.size + 1 + 1 + 1, 3, none⟩ = some (.int .i64 v) := fun w' h => h.cellOf (by rw [hW0]; exact ((Ext.refl _).alloc _).cellOf (boxed 3 rfl (by simp)))
  have e34 : ∀ w', (Ext W0) w' → w'.cell? ⟨w.heap.size + 1 + 1 + 1, 4, none⟩ = some (.int .i64 m) := fun w' h => h.cellOf (by rw [hW0]; exact ((Ext.refl _).alloc _).cellOf (boxed 4 rfl (by simp)))
  have e40 : ∀ w', (Ext W0) w' → w'.cell? ⟨w.heap.size + 1 + 1 + 1 + 1, 0, none⟩ = some (.int .i64 0) := fun w' h => h.cellOf (by rw [hW0]; exact boxed 0 rfl (by simp))
  have e41 : ∀ w', (Ext W0) w' → w'.cell? ⟨w.heap.size + 1 + 1 + 1 + 1, 1, none⟩ = some (.int .i64 0) := fun w' h => h.cellOf (by rw [hW0]; exact boxed 1 rfl (by simp))
  have B3 := Lib.hid (show Box W0 (w.heap.size + 1 + 1 + 1 + 1) [.int .i64 0, .int .i64 0] from hW0 ▸ Box.new2 (by simp))
  go_enter Try.func20, Try.ntmps20
  go_wp2_with fail
  rw [← hW0]
  clear hW0
  refine (windValid_any _ _ _).mono ?_
  rintro e w1 ⟨rfl, hz⟩
  replace hz : Ext W0 w1 := hz
  cases h0 : wdB x y
  · have HB := Lib.hid (rb_no (X := X) (Y := Y) (a := a) (b := b) (c := c) (d := d) (n := n) (p := p) (q := q) (u := u) (v := v) (m := m) h0)
    have HC := Lib.hid (show rbC x y X Y a b c d n p q u v m = 1 from if_no HB.out)
    have HK := Lib.hid (show rbG x y X Y a b c d n p q u v m = 0 from if_no HB.out)
    have HR := Lib.hid (show rbR x y X Y a b c d n p q u v m = 0 from if_no HB.out)
    obtain ⟨⟨r0, r1⟩, r2, r3⟩ := (B3.out.ext hz).two
    go_wp2
    exact rbI_done (B3.out.ext hz).set2 (((hX.trans hz).setNew (by simp; omega) _).setNew (by simp; omega) _) rfl rfl _ _ _ HK.out HR.out HC.out
  have g10 := e10 w1 hz; have g11 := e11 w1 hz; have g12 := e12 w1 hz; have g13 := e13 w1 hz; have g14 := e14 w1 hz
  go_wp2_with fail
  refine (isValid_any _ _ _).mono ?_
  rintro e w2 ⟨rfl, hy⟩
  replace hz := hz.trans hy
  clear hy g10 g11 g12 g13 g14
  cases h1 : ptB X Y
  · have HB := Lib.hid (rb_ib (x := x) (y := y) (ib_no0 (a := a) (b := b) (c := c) (d := d) (n := n) (p := p) (q := q) (u := u) (v := v) (m := m) h1))
    have HC := Lib.hid (show rbC x y X Y a b c d n p q u v m = 1 from if_no HB.out)
    have HK := Lib.hid (show rbG x y X Y a b c d n p q u v m = 0 from if_no HB.out)
    have HR := Lib.hid (show rbR x y X Y a b c d n p q u v m = 0 from if_no HB.out)
    obtain ⟨⟨r0, r1⟩, r2, r3⟩ := (B3.out.ext hz).two
    go_wp2
    exact rbI_done (B3.out.ext hz).set2 (((hX.trans hz).setNew (by simp; omega) _).setNew (by simp; omega) _) rfl rfl _ _ _ HK.out HR.out HC.out
  have g20 := e20 w2 hz; have g21 := e21 w2 hz; have g22 := e22 w2 hz; have g23 := e23 w2 hz; have g24 := e24 w2 hz
  go_wp2_with fail
  refine (hullValid_any _ _ _ _ _ _).mono ?_
  rintro e w3 ⟨rfl, hy⟩
  replace hz := hz.trans hy
  clear hy g20 g21 g22 g23 g24
  cases h2 : hlB a b c d n
  · have HB := Lib.hid (rb_ib (x := x) (y := y) (ib_no1 (X := X) (Y := Y) (p := p) (q := q) (u := u) (v := v) (m := m) h2))
    have HC := Lib.hid (show rbC x y X Y a b c d n p q u v m = 1 from if_no HB.out)
    have HK := Lib.hid (show rbG x y X Y a b c d n p q u v m = 0 from if_no HB.out)
    have HR := Lib.hid (show rbR x y X Y a b c d n p q u v m = 0 from if_no HB.out)
    obtain ⟨⟨r0, r1⟩, r2, r3⟩ := (B3.out.ext hz).two
    go_wp2
    exact rbI_done (B3.out.ext hz).set2 (((hX.trans hz).setNew (by simp; omega) _).setNew (by simp; omega) _) rfl rfl _ _ _ HK.out HR.out HC.out
  have g30 := e30 w3 hz; have g31 := e31 w3 hz; have g32 := e32 w3 hz; have g33 := e33 w3 hz; have g34 := e34 w3 hz
  go_wp2_with fail
  refine (hullValid_any _ _ _ _ _ _).mono ?_
  rintro e w4 ⟨rfl, hy⟩
  replace hz := hz.trans hy
  clear hy g30 g31 g32 g33 g34
  cases h3 : hlB p q u v m
  · have HB := Lib.hid (rb_ib (x := x) (y := y) (ib_no2 (X := X) (Y := Y) (a := a) (b := b) (c := c) (d := d) (n := n) h3))
    have HC := Lib.hid (show rbC x y X Y a b c d n p q u v m = 1 from if_no HB.out)
    have HK := Lib.hid (show rbG x y X Y a b c d n p q u v m = 0 from if_no HB.out)
    have HR := Lib.hid (show rbR x y X Y a b c d n p q u v m = 0 from if_no HB.out)
    obtain ⟨⟨r0, r1⟩, r2, r3⟩ := (B3.out.ext hz).two
    go_wp2
    exact rbI_done (B3.out.ext hz).set2 (((hX.trans hz).setNew (by simp; omega) _).setNew (by simp; omega) _) rfl rfl _ _ _ HK.out HR.out HC.out
  have HB := Lib.hid (rb_yes h0 (ib_yes h1 h2 h3))
  have HC := Lib.hid (show rbC x y X Y a b c d n p q u v m = 0 from if_yes HB.out)
  have HK := Lib.hid (show rbG x y X Y a b c d n p q u v m = rmG x y X Y a b c d n p q u v m from if_yes HB.out)
  have HR := Lib.hid (show rbR x y X Y a b c d n p q u v m = rmR x y X Y a b c d n p q u v m from if_yes HB.out)
  have PA := Lib.hid (fun w => between_any x y N X Y S Z a b c d n p q u v m w h0 h1 h2 h3)
  generalize rmG x y X Y a b c d n p q u v m = K at *
  generalize rmR x y X Y a b c d n p q u v m = Q at *
  have g00 := e00 w4 hz; have g01 := e01 w4 hz
  have g10 := e10 w4 hz; have g11 := e11 w4 hz; have g12 := e12 w4 hz; have g13 := e13 w4 hz; have g14 := e14 w4 hz
  have g20 := e20 w4 hz; have g21 := e21 w4 hz; have g22 := e22 w4 hz; have g23 := e23 w4 hz; have g24 := e24 w4 hz
  have g30 := e30 w4 hz; have g31 := e31 w4 hz; have g32 := e32 w4 hz; have g33 := e33 w4 hz; have g34 := e34 w4 hz
  go_wp2_with fail
  refine (PA.out _).mono ?_
  rintro e w9 ⟨rfl, hy⟩
  replace hz := hz.trans hy
  obtain ⟨⟨r0, r1⟩, r2, r3⟩ := (B3.out.ext hz).two
  go_wp2
  exact rbI_done (B3.out.ext hz).set2 (((hX.trans hz).setNew (by simp; omega) _).setNew (by simp; omega) _) rfl rfl _ _ _ HK.out HR.out HC.out

theorem rbS_done {n : Nat} {w F : World} {tmps : Array Value} {a b k : Int} (B : Box F n [.int .i64 a, .int .i64 b]) (hC : Ext w F) (h6 : tmps[8]? = some (.pointer (some ⟨n, 0, none⟩))) (h7 : tmps[9]? = some (.int .i64 k)) (X Y C : Int) (hX : X = a) (hY : Y = b) (hK : C = k) :
    bodyPost Try.prog Try.f21 (fun e w' => e = .returned (.tuple #[Pt X Y, .int .i64 C]) ∧ Ext w w') Exit.ret ⟨tmps, []⟩ F := by
  subst hX; subst hY; subst hK
  obtain ⟨⟨g0, g1⟩, _⟩ := B.two
  exact bodyPost_ret (v := .tuple #[Pt X Y, .int .i64 C]) (by simp [results, Try.results21, go_sem, h6, h7, g0, g1]) rfl ⟨rfl, hC⟩

set_option maxHeartbeats 4000000 in
theorem roomBetween_spec (x y : Int) (N : ByteArray) (X Y S Z a b c d n p q u v m : Int) (w : World) :
    Calls Try.prog 21 #[Pt x y, MkV N X Y S Z, Hv a b c d n, Hv p q u v m] w fun e w' => e = .returned (.tuple #[Pt (rbG x y X Y a b c d n p q u v m) (rbR x y X Y a b c d n p q u v m), .int .i64 (rbC x y X Y a b c d n p q u v m)]) ∧ Ext w w' := by
  obtain ⟨W0, hW0⟩ : ∃ W0, W0 = ((((w.alloc (.cells #[.int .i64 x, .int .i64 y] 25)).alloc (.cells #[.string N, .int .i64 X, .int .i64 Y, .int .i64 S, .int .i64 Z] 45)).alloc (.cells #[.int .i64 a, .int .i64 b, .int .i64 c, .int .i64 d, .int .i64 n] 39)).alloc (.cells #[.int .i64 p, .int .i64 q, .int .i64 u, .int .i64 v, .int .i64 m] 39)).alloc (.cells #[.int .i64 0, .int .i64 0] 49) := ⟨_, rfl⟩
  have hX : Ext w W0 := hW0 ▸ ((((((Ext.refl w).alloc _).alloc _).alloc _).alloc _).alloc _)
  have hs0 : W0.heap.size = w.heap.size + 1 + 1 + 1 + 1 + 1 := by rw [hW0]; simp
  have e00 : ∀ w', (Ext W0) w' → w'.cell? ⟨w.heap.size, 0, none⟩ = some (.int .i64 x) := fun w' h => h.cellOf (by rw [hW0]; exact (((((Ext.refl _).alloc _).alloc _).alloc _).alloc _).cellOf (boxed 0 rfl (by simp)))
  have e01 : ∀ w', (Ext W0) w' → w'.cell? ⟨w.heap.size, 1, none⟩ = some (.int .i64 y) := fun w' h => h.cellOf (by rw [hW0]; exact (((((Ext.refl _).alloc _).alloc _).alloc _).alloc _).cellOf (boxed 1 rfl (by simp)))
  have e10 : ∀ w', (Ext W0) w' → w'.cell? ⟨w.heap.size + 1, 0, none⟩ = some (.string N) := fun w' h => h.cellOf (by rw [hW0]; exact ((((Ext.refl _).alloc _).alloc _).alloc _).cellOf (boxed 0 rfl (by simp)))
  have e11 : ∀ w', (Ext W0) w' → w'.cell? ⟨w.heap.size + 1, 1, none⟩ = some (.int .i64 X) := fun w' h => h.cellOf (by rw [hW0]; exact ((((Ext.refl _).alloc _).alloc _).alloc _).cellOf (boxed 1 rfl (by simp)))
  have e12 : ∀ w', (Ext W0) w' → w'.cell? ⟨w.heap.size + 1, 2, none⟩ = some (.int .i64 Y) := fun w' h => h.cellOf (by rw [hW0]; exact ((((Ext.refl _).alloc _).alloc _).alloc _).cellOf (boxed 2 rfl (by simp)))
  have e13 : ∀ w', (Ext W0) w' → w'.cell? ⟨w.heap.size + 1, 3, none⟩ = some (.int .i64 S) := fun w' h => h.cellOf (by rw [hW0]; exact ((((Ext.refl _).alloc _).alloc _).alloc _).cellOf (boxed 3 rfl (by simp)))
  have e14 : ∀ w', (Ext W0) w' → w'.cell? ⟨w.heap.size + 1, 4, none⟩ = some (.int .i64 Z) := fun w' h => h.cellOf (by rw [hW0]; exact ((((Ext.refl _).alloc _).alloc _).alloc _).cellOf (boxed 4 rfl (by simp)))
  have e20 : ∀ w', (Ext W0) w' → w'.cell? ⟨w.heap.size + 1 + 1, 0, none⟩ = some (.int .i64 a) := fun w' h => h.cellOf (by rw [hW0]; exact (((Ext.refl _).alloc _).alloc _).cellOf (boxed 0 rfl (by simp)))
  have e21 : ∀ w', (Ext W0) w' → w'.cell? ⟨w.heap.size + 1 + 1, 1, none⟩ = some (.int .i64 b) := fun w' h => h.cellOf (by rw [hW0]; exact (((Ext.refl _).alloc _).alloc _).cellOf (boxed 1 rfl (by simp)))
  have e22 : ∀ w', (Ext W0) w' → w'.cell? ⟨w.heap.size + 1 + 1, 2, none⟩ = some (.int .i64 c) := fun w' h => h.cellOf (by rw [hW0]; exact (((Ext.refl _).alloc _).alloc _).cellOf (boxed 2 rfl (by simp)))
  have e23 : ∀ w', (Ext W0) w' → w'.cell? ⟨w.heap.size + 1 + 1, 3, none⟩ = some (.int .i64 d) := fun w' h => h.cellOf (by rw [hW0]; exact (((Ext.refl _).alloc _).alloc _).cellOf (boxed 3 rfl (by simp)))
  have e24 : ∀ w', (Ext W0) w' → w'.cell? ⟨w.heap.size + 1 + 1, 4, none⟩ = some (.int .i64 n) := fun w' h => h.cellOf (by rw [hW0]; exact (((Ext.refl _).alloc _).alloc _).cellOf (boxed 4 rfl (by simp)))
  have e30 : ∀ w', (Ext W0) w' → w'.cell? ⟨w.heap.size + 1 + 1 + 1, 0, none⟩ = some (.int .i64 p) := fun w' h => h.cellOf (by rw [hW0]; exact ((Ext.refl _).alloc _).cellOf (boxed 0 rfl (by simp)))
  have e31 : ∀ w', (Ext W0) w' → w'.cell? ⟨w.heap.size + 1 + 1 + 1, 1, none⟩ = some (.int .i64 q) := fun w' h => h.cellOf (by rw [hW0]; exact ((Ext.refl _).alloc _).cellOf (boxed 1 rfl (by simp)))
  have e32 : ∀ w', (Ext W0) w' → w'.cell? ⟨w.heap.size + 1 + 1 + 1, 2, none⟩ = some (.int .i64 u) := fun w' h => h.cellOf (by rw [hW0]; exact ((Ext.refl _).alloc _).cellOf (boxed 2 rfl (by simp)))
  have e33 : ∀ w', (Ext W0) w' → w'.cell? ⟨w.heap.size + 1 + 1 + 1, 3, none⟩ = some (.int .i64 v) := fun w' h => h.cellOf (by rw [hW0]; exact ((Ext.refl _).alloc _).cellOf (boxed 3 rfl (by simp)))
  have e34 : ∀ w', (Ext W0) w' → w'.cell? ⟨w.heap.size + 1 + 1 + 1, 4, none⟩ = some (.int .i64 m) := fun w' h => h.cellOf (by rw [hW0]; exact ((Ext.refl _).alloc _).cellOf (boxed 4 rfl (by simp)))
  have e40 : ∀ w', (Ext W0) w' → w'.cell? ⟨w.heap.size + 1 + 1 + 1 + 1, 0, none⟩ = some (.int .i64 0) := fun w' h => h.cellOf (by rw [hW0]; exact boxed 0 rfl (by simp))
  have e41 : ∀ w', (Ext W0) w' → w'.cell? ⟨w.heap.size + 1 + 1 + 1 + 1, 1, none⟩ = some (.int .i64 0) := fun w' h => h.cellOf (by rw [hW0]; exact boxed 1 rfl (by simp))
  have B3 := Lib.hid (show Box W0 (w.heap.size + 1 + 1 + 1 + 1) [.int .i64 0, .int .i64 0] from hW0 ▸ Box.new2 (by simp))
  go_enter Try.func21, Try.ntmps21
  go_wp2_with fail
  rw [← hW0]
  clear hW0
  refine (isWind_spec _ _ _).mono ?_
  rintro e w1 ⟨rfl, hz⟩
  replace hz : Ext W0 w1 := hz
  cases h0 : wdB x y
  · have HB := Lib.hid (rb_no (X := X) (Y := Y) (a := a) (b := b) (c := c) (d := d) (n := n) (p := p) (q := q) (u := u) (v := v) (m := m) h0)
    have HC := Lib.hid (show rbC x y X Y a b c d n p q u v m = 1 from if_no HB.out)
    have HK := Lib.hid (show rbG x y X Y a b c d n p q u v m = 0 from if_no HB.out)
    have HR := Lib.hid (show rbR x y X Y a b c d n p q u v m = 0 from if_no HB.out)
    obtain ⟨⟨r0, r1⟩, r2, r3⟩ := (B3.out.ext hz).two
    go_wp2
    exact rbS_done (B3.out.ext hz).set2 (((hX.trans hz).setNew (by simp; omega) _).setNew (by simp; omega) _) rfl rfl _ _ _ HK.out HR.out HC.out
  have g10 := e10 w1 hz; have g11 := e11 w1 hz; have g12 := e12 w1 hz; have g13 := e13 w1 hz; have g14 := e14 w1 hz; have g20 := e20 w1 hz; have g21 := e21 w1 hz; have g22 := e22 w1 hz; have g23 := e23 w1 hz; have g24 := e24 w1 hz; have g30 := e30 w1 hz; have g31 := e31 w1 hz; have g32 := e32 w1 hz; have g33 := e33 w1 hz; have g34 := e34 w1 hz
  go_wp2_with fail
  refine (valid11_any _ _ _ _ _ _ _ _ _ _ _ _ _ _ _ _).mono ?_
  rintro e w2 ⟨rfl, hy⟩
  replace hz := hz.trans hy
  clear hy g10 g11 g12 g13 g14 g20 g21 g22 g23 g24 g30 g31 g32 g33 g34
  cases hb : ibB X Y a b c d n p q u v m
  · have HB := Lib.hid (rb_ib (x := x) (y := y) hb)
    have HC := Lib.hid (show rbC x y X Y a b c d n p q u v m = 1 from if_no HB.out)
    have HK := Lib.hid (show rbG x y X Y a b c d n p q u v m = 0 from if_no HB.out)
    have HR := Lib.hid (show rbR x y X Y a b c d n p q u v m = 0 from if_no HB.out)
    obtain ⟨⟨r0, r1⟩, r2, r3⟩ := (B3.out.ext hz).two
    go_wp2
    exact rbS_done (B3.out.ext hz).set2 (((hX.trans hz).setNew (by simp; omega) _).setNew (by simp; omega) _) rfl rfl _ _ _ HK.out HR.out HC.out
  obtain ⟨h1, h2, h3⟩ := ib_all hb
  have HB := Lib.hid (rb_yes h0 hb)
  clear hb
  have HC := Lib.hid (show rbC x y X Y a b c d n p q u v m = 0 from if_yes HB.out)
  have HK := Lib.hid (show rbG x y X Y a b c d n p q u v m = rmG x y X Y a b c d n p q u v m from if_yes HB.out)
  have HR := Lib.hid (show rbR x y X Y a b c d n p q u v m = rmR x y X Y a b c d n p q u v m from if_yes HB.out)
  have PA := Lib.hid (fun w => room_spec x y N X Y S Z a b c d n p q u v m w h0 h1 h2 h3)
  generalize rmG x y X Y a b c d n p q u v m = K at *
  generalize rmR x y X Y a b c d n p q u v m = Q at *
  have g00 := e00 w2 hz; have g01 := e01 w2 hz
  have g10 := e10 w2 hz; have g11 := e11 w2 hz; have g12 := e12 w2 hz; have g13 := e13 w2 hz; have g14 := e14 w2 hz
  have g20 := e20 w2 hz; have g21 := e21 w2 hz; have g22 := e22 w2 hz; have g23 := e23 w2 hz; have g24 := e24 w2 hz
  have g30 := e30 w2 hz; have g31 := e31 w2 hz; have g32 := e32 w2 hz; have g33 := e33 w2 hz; have g34 := e34 w2 hz
  go_wp2_with fail
  refine (PA.out _).mono ?_
  rintro e w9 ⟨rfl, hy⟩
  replace hz := hz.trans hy
  obtain ⟨⟨r0, r1⟩, r2, r3⟩ := (B3.out.ext hz).two
  go_wp2
  exact rbS_done (B3.out.ext hz).set2 (((hX.trans hz).setNew (by simp; omega) _).setNew (by simp; omega) _) rfl rfl _ _ _ HK.out HR.out HC.out

end Go.Proofs.Ytcangdcakgcpaaa.Rom
