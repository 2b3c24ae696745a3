/- WindwardGain of both. -/
import Derived.Test.YtkodmdfcppnfoaaWnd2
namespace Go.Proofs.Ytkodmdfcppnfoaa.Wnd
open Go.ChangeShapes Go.WideShapes Go.ChangeAt Go.RowKit
open Go.Proofs.Ytkodmdfcppnfoaa.Num Go.Proofs.Ytkodmdfcppnfoaa.Kit Go.Proofs.Ytkodmdfcppnfoaa.Pts Go.Proofs.Ytkodmdfcppnfoaa.Seg Go.Proofs.Ytkodmdfcppnfoaa.Gcd Go.Proofs.Ytkodmdfcppnfoaa.Rt Go.Proofs.Ytkodmdfcppnfoaa.Root
open Go.Proofs.Ytkodmdfcppnfoaa.Lth (ln2 ln2_pos length_any sqs_bd)
set_option linter.unusedVariables false
set_option linter.unusedSimpArgs false

/-- The answers of WindwardGain. -/
def wgN (x y p q u v : Int) : Int := flo (-((u - p) * x + (v - q) * y)) (ln2 x y)
def wgB (x y p q u v : Int) : Bool := wdB x y && (ptB p q && ptB u v)
def wgV (x y p q u v : Int) : Int := if wgB x y p q u v = true then wgN x y p q u v else 0
def wgC (x y p q u v : Int) : Int := if wgB x y p q u v = true then 0 else 1
theorem fdQ_in {a b : Int} (h1 : 1 ≤ b) (h2 : b ≤ 1000000000000000000) (h3 : -1000000000000000000 ≤ a) (h4 : a ≤ 1000000000000000000) : fdQ a b = flo a b ∧ fdC a b = 0 := ⟨if_pos ⟨h1, h2, h3, h4⟩, if_pos ⟨h1, h2, h3, h4⟩⟩

set_option maxHeartbeats 1000000 in
theorem gain_impl (x y p q u v : Int) (w : World) : Calls Try.prog 23 #[Pt x y, Pt p q, Pt u v] w fun e w' => e = .returned (.tuple #[.int .i64 (wgV x y p q u v), .int .i64 (wgC x y p q u v)]) ∧ Ext w w' := by
  obtain ⟨W0, hW0⟩ : ∃ W0, W0 = ((w.alloc (.cells #[.int .i64 x, .int .i64 y] 25)).alloc (.cells #[.int .i64 p, .int .i64 q] 26)).alloc (.cells #[.int .i64 u, .int .i64 v] 26) := ⟨_, rfl⟩
  have hX : Ext w W0 := hW0 ▸ ((((Ext.refl w).alloc _).alloc _).alloc _)
  have hs0 : W0.heap.size = w.heap.size + 1 + 1 + 1 := by rw [hW0]; simp
  have e00 : ∀ w', (Ext W0) w' → w'.cell? ⟨w.heap.size, 0, none⟩ = some (.int .i64 x) := fun w' h => h.cellOf (by rw [hW0]; exact (((Ext.refl _).alloc _).alloc _).cellOf (boxed 0 rfl (by simp)))
  have e01 : ∀ w', (Ext W0) w' → w'.cell? ⟨w.heap.size, 1, none⟩ = some (.int .i64 y) := fun w' h => h.cellOf (by rw [hW0]; exact (((Ext.refl _).alloc _).alloc _).cellOf (boxed 1 rfl (by simp)))
  have e10 : ∀ w', (Ext W0) w' → w'.cell? ⟨w.heap.size + 1, 0, none⟩ = some (.int .i64 p) := fun w' h => h.cellOf (by rw [hW0]; exact ((Ext.refl _).alloc _).cellOf (boxed 0 rfl (by simp)))
  have e11 : ∀ w', (Ext W0) w' → w'.cell? ⟨w.heap.size + 1, 1, none⟩ = some (.int .i64 q) := fun w' h => h.cellOf (by rw [hW0]; exact ((Ext.refl _).alloc _).cellOf (boxed 1 rfl (by simp)))
  have e20 : ∀ w', (Ext W0) w' → w'.cell? ⟨w.heap.size + 1 + 1, 0, none⟩ = some (.int .i64 u) := fun w' h => h.cellOf (by rw [hW0]; exact boxed 0 rfl (by simp))
  have e21 : ∀ w', (Ext W0) w' → w'.cell? ⟨w.heap.size + 1 + 1, 1, none⟩ = some (.int .i64 v) := fun w' h => h.cellOf (by rw [hW0]; exact boxed 1 rfl (by simp))
  go_enter Try.func23, Try.ntmps23
  go_wp2_with fail
  refine (windValid_any _ _ _).mono ?_
  rintro e w1 ⟨rfl, hz⟩
  rw [← hW0] at hz
  clear hW0
  replace hz : Ext W0 w1 := hz
  cases h1 : wdB x y
  · have HB := Lib.hid (show wgB x y p q u v = false by unfold wgB; rw [h1]; rfl)
    have HQ := Lib.hid (show wgV x y p q u v = 0 by unfold wgV; rw [HB.out]; rfl)
    have HC := Lib.hid (show wgC x y p q u v = 1 by unfold wgC; rw [HB.out]; rfl)
    go_wp2
    go_ret2
    exact ⟨ret_int2 HQ.out HC.out, hX.trans hz⟩
  have g10 := e10 w1 hz
  have g11 := e11 w1 hz
  go_wp2_with fail
  refine (isValid_any _ _ _).mono ?_
  rintro e w2 ⟨rfl, hy⟩
  replace hz := hz.trans hy
  clear hy g10 g11
  cases h2 : ptB p q
  · have HB := Lib.hid (show wgB x y p q u v = false by unfold wgB; rw [h1, h2]; rfl)
    have HQ := Lib.hid (show wgV x y p q u v = 0 by unfold wgV; rw [HB.out]; rfl)
    have HC := Lib.hid (show wgC x y p q u v = 1 by unfold wgC; rw [HB.out]; rfl)
    go_wp2
    go_ret2
    exact ⟨ret_int2 HQ.out HC.out, hX.trans hz⟩
  have g20 := e20 w2 hz
  have g21 := e21 w2 hz
  go_wp2_with fail
  refine (isValid_any _ _ _).mono ?_
  rintro e w3 ⟨rfl, hy⟩
  replace hz := hz.trans hy
  clear hy g20 g21
  cases h3 : ptB u v
  · have HB := Lib.hid (show wgB x y p q u v = false by unfold wgB; rw [h1, h2, h3]; rfl)
    have HQ := Lib.hid (show wgV x y p q u v = 0 by unfold wgV; rw [HB.out]; rfl)
    have HC := Lib.hid (show wgC x y p q u v = 1 by unfold wgC; rw [HB.out]; rfl)
    go_wp2
    go_ret2
    exact ⟨ret_int2 HQ.out HC.out, hX.trans hz⟩
  have HB := Lib.hid (show wgB x y p q u v = true by unfold wgB; rw [h1, h2, h3]; rfl)
  obtain ⟨a1, a2, a3⟩ := wdB_yes h1
  obtain ⟨b1, b2⟩ := ptB_yes h2
  obtain ⟨c1, c2⟩ := ptB_yes h3
  have PV := Lib.hid (fun w => vectorTo_any p q u v w b1 b2 c1 c2)
  have PA := Lib.hid (fun w => along_any x y (u - p) (v - q) w a1 a2 (by omega) (by omega))
  have PL := Lib.hid (fun w => length_any x y w (by omega) (by omega))
  obtain ⟨l1, l2⟩ := ln2_pos (x := x) (y := y) (by omega) (by omega) a3
  have bd := (prod_bd (x := x) (y := y) (u := u - p) (v := v - q) a1 a2 (by omega) (by omega)).1
  have HQ0 : wgV x y p q u v = flo (-((u - p) * x + (v - q) * y)) (ln2 x y) := by unfold wgV wgN; rw [HB.out]; rfl
  have HC := Lib.hid (show wgC x y p q u v = 0 by unfold wgC; rw [HB.out]; rfl)
  obtain ⟨D, hD⟩ : ∃ D, D = (u - p) * x + (v - q) * y := ⟨_, rfl⟩
  obtain ⟨L, hL⟩ : ∃ L, L = ln2 x y := ⟨_, rfl⟩
  rw [← hD] at PA bd HQ0
  rw [← hL] at PL l1 l2 HQ0
  have TN : IntKind.i64.wrap (-D) = -D := IntWalk.i64_in _ (by omega)
  have PF := Lib.hid (fun w => floorDiv_impl (-D) L w)
  rw [(fdQ_in (a := -D) (b := L) (by omega) (by omega) (by omega) (by omega)).1, (fdQ_in (a := -D) (b := L) (by omega) (by omega) (by omega) (by omega)).2] at PF
  have HQ := Lib.hid HQ0
  clear HQ0 hD hL a1 a2 a3 b1 b2 c1 c2 l1 l2 bd
  have hr := Ext.refl w3
  replace e00 : ∀ w', Ext w3 w' → w'.cell? ⟨w.heap.size, 0, none⟩ = some (.int .i64 x) := fun w' h => e00 w' (hz.trans h)
  replace e01 : ∀ w', Ext w3 w' → w'.cell? ⟨w.heap.size, 1, none⟩ = some (.int .i64 y) := fun w' h => e01 w' (hz.trans h)
  replace e10 : ∀ w', Ext w3 w' → w'.cell? ⟨w.heap.size + 1, 0, none⟩ = some (.int .i64 p) := fun w' h => e10 w' (hz.trans h)
  replace e11 : ∀ w', Ext w3 w' → w'.cell? ⟨w.heap.size + 1, 1, none⟩ = some (.int .i64 q) := fun w' h => e11 w' (hz.trans h)
  replace e20 : ∀ w', Ext w3 w' → w'.cell? ⟨w.heap.size + 1 + 1, 0, none⟩ = some (.int .i64 u) := fun w' h => e20 w' (hz.trans h)
  replace e21 : ∀ w', Ext w3 w' → w'.cell? ⟨w.heap.size + 1 + 1, 1, none⟩ = some (.int .i64 v) := fun w' h => e21 w' (hz.trans h)
  go_wp2_with fail
  refine wp_region_held_drew (S := (fun w' => Ext w3 w')) (by kernel_rfl) (by (try dsimp only); first | go_keep | exact (Ext.refl _).drew | exact Res.new2.drew | exact Res.new4.drew | exact ResB.drew (by assumption) | exact ResC.drew (by assumption) | assumption | exact Ext.drew (by assumption) | exact Res.drew (by assumption)) (fun hHeld => ?_)
  (refine Ord.k 0 21 (v := ?_) ?_ ?_; rotate_left; (intro w h; (try dsimp only at h); go_simp; (try with_reducible rfl)); (try simp only [Act.put, Ord.a, Ord.b, Ord.c]))
  (refine Ord.k 1 22 (v := ?_) ?_ ?_; rotate_left; (intro w h; (try dsimp only at h); go_simp; (try with_reducible rfl)); (try simp only [Act.put, Ord.a, Ord.b, Ord.c]))
  (refine Ord.k 2 23 (v := ?_) ?_ ?_; rotate_left; (intro w h; (try dsimp only at h); go_simp; (try with_reducible rfl)); (try simp only [Act.put, Ord.a, Ord.b, Ord.c]))
  (refine Ord.k 6 27 (v := ?_) ?_ ?_; rotate_left; (intro w h; (try dsimp only at h); go_simp; (try with_reducible rfl)); (try simp only [Act.put, Ord.a, Ord.b, Ord.c]))
  (refine wpAnyH_ready (rs := [3]) (by kernel_rfl) (by simp) ?_; refine AllReadyH.cons rfl (fun K hK => ?_) AllReadyH.nil; go_simp; (first | (go_at_call 64; refine (PV.out _).mono ?_; rintro e w4 ⟨rfl, hy⟩) | (go_at_call 63; refine (PA.out _).mono ?_; rintro e w4 ⟨rfl, hy⟩) | (go_at_call 65; refine (PL.out _).mono ?_; rintro e w4 ⟨rfl, hy⟩) | (go_at_call 62; refine (PF.out _).mono ?_; rintro e w4 ⟨rfl, rfl⟩)); go_wp2_with fail; (refine hK.out _ _ (by first | assumption | exact Ext.trans (by assumption) hy | exact Res.ext (by assumption) hy | exact ResB.ext (by assumption) hy | exact ResC.ext (by assumption) hy | (go_split_ands; (repeat' apply And.intro) <;> exact Ext.cellOf hy (by assumption))) (fun hHeld => ?_)); clear hK K; (try simp only [Act.put, Ord.a, Ord.b, Ord.c]))
  (refine wpAnyH_ready (rs := [4]) (by kernel_rfl) (by simp) ?_; refine AllReadyH.cons rfl (fun K hK => ?_) AllReadyH.nil; go_simp; (first | (go_at_call 64; refine (PV.out _).mono ?_; rintro e w4 ⟨rfl, hy⟩) | (go_at_call 63; refine (PA.out _).mono ?_; rintro e w4 ⟨rfl, hy⟩) | (go_at_call 65; refine (PL.out _).mono ?_; rintro e w4 ⟨rfl, hy⟩) | (go_at_call 62; refine (PF.out _).mono ?_; rintro e w4 ⟨rfl, rfl⟩)); go_wp2_with fail; (refine hK.out _ _ (by first | assumption | exact Ext.trans (by assumption) hy | exact Res.ext (by assumption) hy | exact ResB.ext (by assumption) hy | exact ResC.ext (by assumption) hy | (go_split_ands; (repeat' apply And.intro) <;> exact Ext.cellOf hy (by assumption))) (fun hHeld => ?_)); clear hK K; (try simp only [Act.put, Ord.a, Ord.b, Ord.c]))
  (refine Ord.k 5 26 (v := ?_) ?_ ?_; rotate_left; (intro w h; (try dsimp only at h); go_simp; (try with_reducible rfl)); (try simp only [Act.put, Ord.a, Ord.b, Ord.c]))
  (refine wpAnyH_ready (rs := [7]) (by kernel_rfl) (by simp) ?_; refine AllReadyH.cons rfl (fun K hK => ?_) AllReadyH.nil; go_simp; (first | (go_at_call 64; refine (PV.out _).mono ?_; rintro e w4 ⟨rfl, hy⟩) | (go_at_call 63; refine (PA.out _).mono ?_; rintro e w4 ⟨rfl, hy⟩) | (go_at_call 65; refine (PL.out _).mono ?_; rintro e w4 ⟨rfl, hy⟩) | (go_at_call 62; refine (PF.out _).mono ?_; rintro e w4 ⟨rfl, rfl⟩)); go_wp2_with fail; (refine hK.out _ _ (by first | assumption | exact Ext.trans (by assumption) hy | exact Res.ext (by assumption) hy | exact ResB.ext (by assumption) hy | exact ResC.ext (by assumption) hy | (go_split_ands; (repeat' apply And.intro) <;> exact Ext.cellOf hy (by assumption))) (fun hHeld => ?_)); clear hK K; (try simp only [Act.put, Ord.a, Ord.b, Ord.c]))
  (refine wpAnyH_ready (rs := [8]) (by kernel_rfl) (by simp) ?_; refine AllReadyH.cons rfl (fun K hK => ?_) AllReadyH.nil; go_simp; (first | (go_at_call 64; refine (PV.out _).mono ?_; rintro e w4 ⟨rfl, hy⟩) | (go_at_call 63; refine (PA.out _).mono ?_; rintro e w4 ⟨rfl, hy⟩) | (go_at_call 65; refine (PL.out _).mono ?_; rintro e w4 ⟨rfl, hy⟩) | (go_at_call 62; refine (PF.out _).mono ?_; rintro e w4 ⟨rfl, rfl⟩)); go_wp2_with fail; (refine hK.out _ _ (by first | assumption | exact Ext.trans (by assumption) hy | exact Res.ext (by assumption) hy | exact ResB.ext (by assumption) hy | exact ResC.ext (by assumption) hy | (go_split_ands; (repeat' apply And.intro) <;> exact Ext.cellOf hy (by assumption))) (fun hHeld => ?_)); clear hK K; (try simp only [Act.put, Ord.a, Ord.b, Ord.c]))
  (refine Ord.k 9 30 (v := ?_) ?_ ?_; rotate_left; (intro w h; (try dsimp only at h); go_simp; (try with_reducible rfl)); (try simp only [Act.put, Ord.a, Ord.b, Ord.c]))
  (refine Ord.k 10 31 (v := ?_) ?_ ?_; rotate_left; (intro w h; (try dsimp only at h); go_simp; (try with_reducible rfl)); (try simp only [Act.put, Ord.a, Ord.b, Ord.c]))
  (refine Ord.k 11 6 (v := ?_) ?_ ?_; rotate_left; (intro w h; (try dsimp only at h); go_simp; (try with_reducible rfl)); (try simp only [Act.put, Ord.a, Ord.b, Ord.c]))
  (refine Ord.k 12 7 (v := ?_) ?_ ?_; rotate_left; (intro w h; (try dsimp only at h); go_simp; (try with_reducible rfl)); (try simp only [Act.put, Ord.a, Ord.b, Ord.c]))
  refine wpAnyH_done (by kernel_rfl) ?_ _
  go_wp2
  go_ret2
  exact ⟨ret_int2 HQ.out HC.out, hX.trans (hz.trans (by assumption))⟩

set_option maxHeartbeats 1000000 in
theorem gain_spec (x y p q u v : Int) (w : World) : Calls Try.prog 24 #[Pt x y, Pt p q, Pt u v] w fun e w' => e = .returned (.tuple #[.int .i64 (wgV x y p q u v), .int .i64 (wgC x y p q u v)]) ∧ Ext w w' := by
  obtain ⟨W0, hW0⟩ : ∃ W0, W0 = ((w.alloc (.cells #[.int .i64 x, .int .i64 y] 25)).alloc (.cells #[.int .i64 p, .int .i64 q] 26)).alloc (.cells #[.int .i64 u, .int .i64 v] 26) := ⟨_, rfl⟩
  have hX : Ext w W0 := hW0 ▸ ((((Ext.refl w).alloc _).alloc _).alloc _)
  have hs0 : W0.heap.size = w.heap.size + 1 + 1 + 1 := by rw [hW0]; simp
  have e00 : ∀ w', (Ext W0) w' → w'.cell? ⟨w.heap.size, 0, none⟩ = some (.int .i64 x) := fun w' h => h.cellOf (by rw [hW0]; exact (((Ext.refl _).alloc _).alloc _).cellOf (boxed 0 rfl (by simp)))
  have e01 : ∀ w', (Ext W0) w' → w'.cell? ⟨w.heap.size, 1, none⟩ = some (.int .i64 y) := fun w' h => h.cellOf (by rw [hW0]; exact (((Ext.refl _).alloc _).alloc _).cellOf (boxed 1 rfl (by simp)))
  have e10 : ∀ w', (Ext W0) w' → w'.cell? ⟨w.heap.size + 1, 0, none⟩ = some (.int .i64 p) := fun w' h => h.cellOf (by rw [hW0]; exact ((Ext.refl _).alloc _).cellOf (boxed 0 rfl (by simp)))
  have e11 : ∀ w', (Ext W0) w' → w'.cell? ⟨w.heap.size + 1, 1, none⟩ = some (.int .i64 q) := fun w' h => h.cellOf (by rw [hW0]; exact ((Ext.refl _).alloc _).cellOf (boxed 1 rfl (by simp)))
  have e20 : ∀ w', (Ext W0) w' → w'.cell? ⟨w.heap.size + 1 + 1, 0, none⟩ = some (.int .i64 u) := fun w' h => h.cellOf (by rw [hW0]; exact boxed 0 rfl (by simp))
  have e21 : ∀ w', (Ext W0) w' → w'.cell? ⟨w.heap.size + 1 + 1, 1, none⟩ = some (.int .i64 v) := fun w' h => h.cellOf (by rw [hW0]; exact boxed 1 rfl (by simp))
  go_enter Try.func24, Try.ntmps24
  go_wp2_with fail
  refine (isWind_spec _ _ _).mono ?_
  rintro e w1 ⟨rfl, hz⟩
  rw [← hW0] at hz
  clear hW0
  replace hz : Ext W0 w1 := hz
  cases h1 : wdB x y
  · have HB := Lib.hid (show wgB x y p q u v = false by unfold wgB; rw [h1]; rfl)
    have HQ := Lib.hid (show wgV x y p q u v = 0 by unfold wgV; rw [HB.out]; rfl)
    have HC := Lib.hid (show wgC x y p q u v = 1 by unfold wgC; rw [HB.out]; rfl)
    go_wp2
    go_ret2
    exact ⟨ret_int2 HQ.out HC.out, hX.trans hz⟩
  have g10 := e10 w1 hz
  have g11 := e11 w1 hz
  go_wp2_with fail
  refine (isPoint_spec _ _ _).mono ?_
  rintro e w2 ⟨rfl, hy⟩
  replace hz := hz.trans hy
  clear hy g10 g11
  cases h2 : ptB p q
  · have HB := Lib.hid (show wgB x y p q u v = false by unfold wgB; rw [h1, h2]; rfl)
    have HQ := Lib.hid (show wgV x y p q u v = 0 by unfold wgV; rw [HB.out]; rfl)
    have HC := Lib.hid (show wgC x y p q u v = 1 by unfold wgC; rw [HB.out]; rfl)
    go_wp2
    go_ret2
    exact ⟨ret_int2 HQ.out HC.out, hX.trans hz⟩
  have g20 := e20 w2 hz
  have g21 := e21 w2 hz
  go_wp2_with fail
  refine (isPoint_spec _ _ _).mono ?_
  rintro e w3 ⟨rfl, hy⟩
  replace hz := hz.trans hy
  clear hy g20 g21
  cases h3 : ptB u v
  · have HB := Lib.hid (show wgB x y p q u v = false by unfold wgB; rw [h1, h2, h3]; rfl)
    have HQ := Lib.hid (show wgV x y p q u v = 0 by unfold wgV; rw [HB.out]; rfl)
    have HC := Lib.hid (show wgC x y p q u v = 1 by unfold wgC; rw [HB.out]; rfl)
    go_wp2
    go_ret2
    exact ⟨ret_int2 HQ.out HC.out, hX.trans hz⟩
  have HB := Lib.hid (show wgB x y p q u v = true by unfold wgB; rw [h1, h2, h3]; rfl)
  obtain ⟨a1, a2, a3⟩ := wdB_yes h1
  obtain ⟨b1, b2⟩ := ptB_yes h2
  obtain ⟨c1, c2⟩ := ptB_yes h3
  have PV := Lib.hid (fun w => vectorS_any x y w)
  have PM := Lib.hid (fun w => minus_any u v p q w c1 c2 b1 b2)
  have PA := Lib.hid (fun w => dot_any (u - p) (v - q) x y w (by omega) (by omega) (by omega) (by omega))
  have PS := Lib.hid (fun w => dot_any x y x y w (by omega) (by omega) (by omega) (by omega))
  obtain ⟨s1, s2⟩ := sqs_bd (x := x) (y := y) (by omega) (by omega)
  have PR := Lib.hid (fun w => root_any (x * x + y * y) w s1 (by omega))
  obtain ⟨l1, l2⟩ := ln2_pos (x := x) (y := y) (by omega) (by omega) a3
  have bd := (prod_bd (x := x) (y := y) (u := u - p) (v := v - q) a1 a2 (by omega) (by omega)).1
  have HQ0 : wgV x y p q u v = flo (-((u - p) * x + (v - q) * y)) (ln2 x y) := by unfold wgV wgN; rw [HB.out]; rfl
  unfold ln2 at HQ0 l1 l2
  have HC := Lib.hid (show wgC x y p q u v = 0 by unfold wgC; rw [HB.out]; rfl)
  obtain ⟨D, hD⟩ : ∃ D, D = (u - p) * x + (v - q) * y := ⟨_, rfl⟩
  obtain ⟨Q, hQ⟩ : ∃ Q, Q = x * x + y * y := ⟨_, rfl⟩
  rw [← hQ] at PS PR l1 l2 HQ0
  obtain ⟨L, hL⟩ : ∃ L, L = rt Q := ⟨_, rfl⟩
  rw [← hD] at PA bd HQ0
  rw [← hL] at PR l1 l2 HQ0
  have TN : IntKind.i64.wrap (-D) = -D := IntWalk.i64_in _ (by omega)
  have PF := Lib.hid (fun w => floor_any (-D) L w (by omega) (by omega) (by omega))
  have HQ := Lib.hid HQ0
  clear HQ0 hD hL hQ a1 a2 a3 b1 b2 c1 c2 l1 l2 bd s1 s2
  have g00 := e00 w3 hz
  have g01 := e01 w3 hz
  clear e00 e01
  go_wp2_with fail
  refine (PV.out _).mono ?_
  rintro e w4 ⟨rfl, hy⟩
  obtain ⟨W5, hW5⟩ : ∃ W5, W5 = w4.alloc (.cells #[.int .i64 x, .int .i64 y] 26) := ⟨_, rfl⟩
  replace hz : Ext W0 W5 := hW5 ▸ ((hz.trans hy).alloc _)
  have v0 : ∀ w', Ext W5 w' → w'.cell? ⟨w4.heap.size, 0, none⟩ = some (.int .i64 x) := fun w' h => h.cellOf (hW5 ▸ boxed 0 rfl rfl)
  have v1 : ∀ w', Ext W5 w' → w'.cell? ⟨w4.heap.size, 1, none⟩ = some (.int .i64 y) := fun w' h => h.cellOf (hW5 ▸ boxed 1 rfl rfl)
  replace e10 : ∀ w', Ext W5 w' → w'.cell? ⟨w.heap.size + 1, 0, none⟩ = some (.int .i64 p) := fun w' h => e10 w' (hz.trans h)
  replace e11 : ∀ w', Ext W5 w' → w'.cell? ⟨w.heap.size + 1, 1, none⟩ = some (.int .i64 q) := fun w' h => e11 w' (hz.trans h)
  replace e20 : ∀ w', Ext W5 w' → w'.cell? ⟨w.heap.size + 1 + 1, 0, none⟩ = some (.int .i64 u) := fun w' h => e20 w' (hz.trans h)
  replace e21 : ∀ w', Ext W5 w' → w'.cell? ⟨w.heap.size + 1 + 1, 1, none⟩ = some (.int .i64 v) := fun w' h => e21 w' (hz.trans h)
  have hr := Ext.refl W5
  clear g00 g01 hy
  go_upto_region 4 with fail
  rw [← hW5]
  clear hW5
  refine wp_region_held_drew (S := (fun w' => Ext W5 w')) (by kernel_rfl) (by (try dsimp only); first | go_keep | exact (Ext.refl _).drew | exact Res.new2.drew | exact Res.new4.drew | exact ResB.drew (by assumption) | exact ResC.drew (by assumption) | assumption | exact Ext.drew (by assumption) | exact Res.drew (by assumption)) (fun hHeld => ?_)
  (refine Ord.k 0 24 (v := ?_) ?_ ?_; rotate_left; (intro w h; (try dsimp only at h); go_simp; (try with_reducible rfl)); (try simp only [Act.put, Ord.a, Ord.b, Ord.c]))
  (refine Ord.k 1 25 (v := ?_) ?_ ?_; rotate_left; (intro w h; (try dsimp only at h); go_simp; (try with_reducible rfl)); (try simp only [Act.put, Ord.a, Ord.b, Ord.c]))
  (refine Ord.k 3 27 (v := ?_) ?_ ?_; rotate_left; (intro w h; (try dsimp only at h); go_simp; (try with_reducible rfl)); (try simp only [Act.put, Ord.a, Ord.b, Ord.c]))
  (refine Ord.k 6 30 (v := ?_) ?_ ?_; rotate_left; (intro w h; (try dsimp only at h); go_simp; (try with_reducible rfl)); (try simp only [Act.put, Ord.a, Ord.b, Ord.c]))
  (refine Ord.k 7 31 (v := ?_) ?_ ?_; rotate_left; (intro w h; (try dsimp only at h); go_simp; (try with_reducible rfl)); (try simp only [Act.put, Ord.a, Ord.b, Ord.c]))
  (refine wpAnyH_ready (rs := [2]) (by kernel_rfl) (by simp) ?_; refine AllReadyH.cons rfl (fun K hK => ?_) AllReadyH.nil; go_simp; (first | (go_at_call 70; refine (PM.out _).mono ?_; rintro e w6 ⟨rfl, hy⟩) | (go_at_call 69; with_reducible refine (PA.out _).mono ?_; rintro e w6 ⟨rfl, hy⟩) | (go_at_call 69; with_reducible refine (PS.out _).mono ?_; rintro e w6 ⟨rfl, hy⟩) | (go_at_call 71; refine (PR.out _).mono ?_; rintro e w6 ⟨rfl, rfl⟩) | (go_at_call 68; refine (PF.out _).mono ?_; rintro e w6 ⟨rfl, rfl⟩)); go_wp2_with fail; (refine hK.out _ _ (by first | assumption | exact Ext.trans (by assumption) hy | exact Res.ext (by assumption) hy | exact ResB.ext (by assumption) hy | exact ResC.ext (by assumption) hy | (go_split_ands; (repeat' apply And.intro) <;> exact Ext.cellOf hy (by assumption))) (fun hHeld => ?_)); clear hK K; (try simp only [Act.put, Ord.a, Ord.b, Ord.c]))
  (refine wpAnyH_ready (rs := [4]) (by kernel_rfl) (by simp) ?_; refine AllReadyH.cons rfl (fun K hK => ?_) AllReadyH.nil; go_simp; (first | (go_at_call 70; refine (PM.out _).mono ?_; rintro e w6 ⟨rfl, hy⟩) | (go_at_call 69; with_reducible refine (PA.out _).mono ?_; rintro e w6 ⟨rfl, hy⟩) | (go_at_call 69; with_reducible refine (PS.out _).mono ?_; rintro e w6 ⟨rfl, hy⟩) | (go_at_call 71; refine (PR.out _).mono ?_; rintro e w6 ⟨rfl, rfl⟩) | (go_at_call 68; refine (PF.out _).mono ?_; rintro e w6 ⟨rfl, rfl⟩)); go_wp2_with fail; (refine hK.out _ _ (by first | assumption | exact Ext.trans (by assumption) hy | exact Res.ext (by assumption) hy | exact ResB.ext (by assumption) hy | exact ResC.ext (by assumption) hy | (go_split_ands; (repeat' apply And.intro) <;> exact Ext.cellOf hy (by assumption))) (fun hHeld => ?_)); clear hK K; (try simp only [Act.put, Ord.a, Ord.b, Ord.c]))
  (refine Ord.k 5 29 (v := ?_) ?_ ?_; rotate_left; (intro w h; (try dsimp only at h); go_simp; (try with_reducible rfl)); (try simp only [Act.put, Ord.a, Ord.b, Ord.c]))
  (refine wpAnyH_ready (rs := [8]) (by kernel_rfl) (by simp) ?_; refine AllReadyH.cons rfl (fun K hK => ?_) AllReadyH.nil; go_simp; (first | (go_at_call 70; refine (PM.out _).mono ?_; rintro e w6 ⟨rfl, hy⟩) | (go_at_call 69; with_reducible refine (PA.out _).mono ?_; rintro e w6 ⟨rfl, hy⟩) | (go_at_call 69; with_reducible refine (PS.out _).mono ?_; rintro e w6 ⟨rfl, hy⟩) | (go_at_call 71; refine (PR.out _).mono ?_; rintro e w6 ⟨rfl, rfl⟩) | (go_at_call 68; refine (PF.out _).mono ?_; rintro e w6 ⟨rfl, rfl⟩)); go_wp2_with fail; (refine hK.out _ _ (by first | assumption | exact Ext.trans (by assumption) hy | exact Res.ext (by assumption) hy | exact ResB.ext (by assumption) hy | exact ResC.ext (by assumption) hy | (go_split_ands; (repeat' apply And.intro) <;> exact Ext.cellOf hy (by assumption))) (fun hHeld => ?_)); clear hK K; (try simp only [Act.put, Ord.a, Ord.b, Ord.c]))
  (refine wpAnyH_ready (rs := [9]) (by kernel_rfl) (by simp) ?_; refine AllReadyH.cons rfl (fun K hK => ?_) AllReadyH.nil; go_simp; (first | (go_at_call 70; refine (PM.out _).mono ?_; rintro e w6 ⟨rfl, hy⟩) | (go_at_call 69; with_reducible refine (PA.out _).mono ?_; rintro e w6 ⟨rfl, hy⟩) | (go_at_call 69; with_reducible refine (PS.out _).mono ?_; rintro e w6 ⟨rfl, hy⟩) | (go_at_call 71; refine (PR.out _).mono ?_; rintro e w6 ⟨rfl, rfl⟩) | (go_at_call 68; refine (PF.out _).mono ?_; rintro e w6 ⟨rfl, rfl⟩)); go_wp2_with fail; (refine hK.out _ _ (by first | assumption | exact Ext.trans (by assumption) hy | exact Res.ext (by assumption) hy | exact ResB.ext (by assumption) hy | exact ResC.ext (by assumption) hy | (go_split_ands; (repeat' apply And.intro) <;> exact Ext.cellOf hy (by assumption))) (fun hHeld => ?_)); clear hK K; (try simp only [Act.put, Ord.a, Ord.b, Ord.c]))
  (refine wpAnyH_ready (rs := [10]) (by kernel_rfl) (by simp) ?_; refine AllReadyH.cons rfl (fun K hK => ?_) AllReadyH.nil; go_simp; (first | (go_at_call 70; refine (PM.out _).mono ?_; rintro e w6 ⟨rfl, hy⟩) | (go_at_call 69; with_reducible refine (PA.out _).mono ?_; rintro e w6 ⟨rfl, hy⟩) | (go_at_call 69; with_reducible refine (PS.out _).mono ?_; rintro e w6 ⟨rfl, hy⟩) | (go_at_call 71; refine (PR.out _).mono ?_; rintro e w6 ⟨rfl, rfl⟩) | (go_at_call 68; refine (PF.out _).mono ?_; rintro e w6 ⟨rfl, rfl⟩)); go_wp2_with fail; (refine hK.out _ _ (by first | assumption | exact Ext.trans (by assumption) hy | exact Res.ext (by assumption) hy | exact ResB.ext (by assumption) hy | exact ResC.ext (by assumption) hy | (go_split_ands; (repeat' apply And.intro) <;> exact Ext.cellOf hy (by assumption))) (fun hHeld => ?_)); clear hK K; (try simp only [Act.put, Ord.a, Ord.b, Ord.c]))
  (refine Ord.k 11 6 (v := ?_) ?_ ?_; rotate_left; (intro w h; (try dsimp only at h); go_simp; (try with_reducible rfl)); (try simp only [Act.put, Ord.a, Ord.b, Ord.c]))
  (refine Ord.k 12 7 (v := ?_) ?_ ?_; rotate_left; (intro w h; (try dsimp only at h); go_simp; (try with_reducible rfl)); (try simp only [Act.put, Ord.a, Ord.b, Ord.c]))
  refine wpAnyH_done (by kernel_rfl) ?_ _
  go_wp2
  go_ret2
  exact ⟨ret_int2 HQ.out HC.out, hX.trans (hz.trans (by assumption))⟩

end Go.Proofs.Ytkodmdfcppnfoaa.Wnd
