/- What GapBehind answers (chapter 9), both. -/
import Derived.Test.YtdcnfeimfpafiaaHul5
namespace Go.Proofs.Ytdcnfeimfpafiaa.Hul
open Go.ChangeShapes Go.WideShapes Go.ChangeAt Go.RowKit
open Go.Proofs.Ytdcnfeimfpafiaa.Num Go.Proofs.Ytdcnfeimfpafiaa.Kit Go.Proofs.Ytdcnfeimfpafiaa.Pts Go.Proofs.Ytdcnfeimfpafiaa.Seg Go.Proofs.Ytdcnfeimfpafiaa.Wnd
open Go.Proofs.Ytdcnfeimfpafiaa.Lth (ln2 ln2_pos length_any sqs_bd)
set_option linter.unusedVariables false
set_option linter.unusedSimpArgs false

set_option maxHeartbeats 2000000 in
theorem gapBehind_impl (a b c d n p q u v m : Int) (w : World) : Calls Try.prog 20 #[Hv a b c d n, Hv p q u v m] w fun e w' => e = .returned (.tuple #[.int .i64 (gpV a b c d n p q u v m), .int .i64 (h2C a b c d n p q u v m)]) ∧ Ext w w' := by
  obtain ⟨W0, hW0⟩ : ∃ W0, W0 = (w.alloc (.cells #[.int .i64 a, .int .i64 b, .int .i64 c, .int .i64 d, .int .i64 n] 27)).alloc (.cells #[.int .i64 p, .int .i64 q, .int .i64 u, .int .i64 v, .int .i64 m] 27) := ⟨_, rfl⟩
  have hX : Ext w W0 := hW0 ▸ (((Ext.refl w).alloc _).alloc _)
  have hs0 : W0.heap.size = w.heap.size + 1 + 1 := by rw [hW0]; simp
  have e00 : ∀ w', (Ext W0) w' → w'.cell? ⟨w.heap.size, 0, none⟩ = some (.int .i64 a) := fun w' h => h.cellOf (by rw [hW0]; exact ((Ext.refl _).alloc _).cellOf (boxed 0 rfl (by simp)))
  have e01 : ∀ w', (Ext W0) w' → w'.cell? ⟨w.heap.size, 1, none⟩ = some (.int .i64 b) := fun w' h => h.cellOf (by rw [hW0]; exact ((Ext.refl _).alloc _).cellOf (boxed 1 rfl (by simp)))
  have e02 : ∀ w', (Ext W0) w' → w'.cell? ⟨w.heap.size, 2, none⟩ = some (.int .i64 c) := fun w' h => h.cellOf (by rw [hW0]; exact ((Ext.refl _).alloc _).cellOf (boxed 2 rfl (by simp)))
  have e03 : ∀ w', (Ext W0) w' → w'.cell? ⟨w.heap.size, 3, none⟩ = some (.int .i64 d) := fun w' h => h.cellOf (by rw [hW0]; exact ((Ext.refl _).alloc _).cellOf (boxed 3 rfl (by simp)))
  have e04 : ∀ w', (Ext W0) w' → w'.cell? ⟨w.heap.size, 4, none⟩ = some (.int .i64 n) := fun w' h => h.cellOf (by rw [hW0]; exact ((Ext.refl _).alloc _).cellOf (boxed 4 rfl (by simp)))
  have e10 : ∀ w', (Ext W0) w' → w'.cell? ⟨w.heap.size + 1, 0, none⟩ = some (.int .i64 p) := fun w' h => h.cellOf (by rw [hW0]; exact boxed 0 rfl (by simp))
  have e11 : ∀ w', (Ext W0) w' → w'.cell? ⟨w.heap.size + 1, 1, none⟩ = some (.int .i64 q) := fun w' h => h.cellOf (by rw [hW0]; exact boxed 1 rfl (by simp))
  have e12 : ∀ w', (Ext W0) w' → w'.cell? ⟨w.heap.size + 1, 2, none⟩ = some (.int .i64 u) := fun w' h => h.cellOf (by rw [hW0]; exact boxed 2 rfl (by simp))
  have e13 : ∀ w', (Ext W0) w' → w'.cell? ⟨w.heap.size + 1, 3, none⟩ = some (.int .i64 v) := fun w' h => h.cellOf (by rw [hW0]; exact boxed 3 rfl (by simp))
  have e14 : ∀ w', (Ext W0) w' → w'.cell? ⟨w.heap.size + 1, 4, none⟩ = some (.int .i64 m) := fun w' h => h.cellOf (by rw [hW0]; exact boxed 4 rfl (by simp))
  go_enter Try.func20, Try.ntmps20
  go_wp2_with fail
  rw [← hW0]
  clear hW0
  refine (hullValid_any _ _ _ _ _ _).mono ?_
  rintro e w1 ⟨rfl, hz⟩
  replace hz : Ext W0 w1 := hz
  cases h1 : hlB a b c d n
  · have HB := Lib.hid (h2_no1 (p := p) (q := q) (u := u) (v := v) (m := m) h1)
    have HV := Lib.hid (show gpV a b c d n p q u v m = 0 from if_no HB.out)
    have HC := Lib.hid (show h2C a b c d n p q u v m = 1 from if_no HB.out)
    go_wp2
    go_ret2
    exact ⟨ret_int2 HV.out HC.out, hX.trans hz⟩
  have g10 := e10 w1 hz; have g11 := e11 w1 hz; have g12 := e12 w1 hz; have g13 := e13 w1 hz; have g14 := e14 w1 hz
  go_wp2_with fail
  refine (hullValid_any _ _ _ _ _ _).mono ?_
  rintro e w2 ⟨rfl, hy⟩
  replace hz := hz.trans hy
  clear hy g10 g11 g12 g13 g14
  cases h2 : hlB p q u v m
  · have HB := Lib.hid (h2_no2 (a := a) (b := b) (c := c) (d := d) (n := n) h2)
    have HV := Lib.hid (show gpV a b c d n p q u v m = 0 from if_no HB.out)
    have HC := Lib.hid (show h2C a b c d n p q u v m = 1 from if_no HB.out)
    go_wp2
    go_ret2
    exact ⟨ret_int2 HV.out HC.out, hX.trans hz⟩
  have HB := Lib.hid (h2_yes h1 h2)
  have HC := Lib.hid (show h2C a b c d n p q u v m = 0 from if_yes HB.out)
  obtain ⟨⟨ha, hb⟩, ⟨hc, hd, hn⟩, n1, n2⟩ := hlB_yes h1
  have A0 := al_bd h1 (hlB_yes h2).1.1 (hlB_yes h2).1.2
  have PA := Lib.hid (fun w => alongI_any a b c d n p q u v m w h1 (hlB_yes h2).1.1 (hlB_yes h2).1.2)
  have PL := Lib.hid (fun w => length_any c d w hc hd)
  obtain ⟨l1, l2⟩ := ln2_pos hc hd hn
  have HV0 : gpV a b c d n p q u v m = flo (-alH a b c d p q) (ln2 c d) - n := if_yes HB.out
  obtain ⟨D, hD⟩ : ∃ D, D = alH a b c d p q := ⟨_, rfl⟩
  obtain ⟨L, hL⟩ : ∃ L, L = ln2 c d := ⟨_, rfl⟩
  rw [← hD] at PA A0 HV0
  rw [← hL] at PL l1 l2 HV0
  have F0 := fl_bd (a := -D) l1 8000000000000 (by omega) (by omega)
  have PF := Lib.hid (fun w => Rsz.rz_in (-D) L w l1 (by omega) (by omega) (by omega))
  have TN : IntKind.i64.wrap (-D) = -D := IntWalk.i64_in _ (by omega)
  obtain ⟨E, hE⟩ : ∃ E, E = flo (-D) L := ⟨_, rfl⟩
  rw [← hE] at PF HV0 F0
  have TS : IntKind.i64.wrap (E - n) = E - n := IntWalk.i64_in _ (by omega)
  have HV := Lib.hid HV0
  clear HV0 hD hL hE hn ha hb hc hd l1 l2 A0 F0 n1 n2
  have hr := Ext.refl w2
  replace e00 : ∀ w', Ext w2 w' → w'.cell? ⟨w.heap.size, 0, none⟩ = some (.int .i64 a) := fun w' h => e00 w' (hz.trans h)
  replace e01 : ∀ w', Ext w2 w' → w'.cell? ⟨w.heap.size, 1, none⟩ = some (.int .i64 b) := fun w' h => e01 w' (hz.trans h)
  replace e02 : ∀ w', Ext w2 w' → w'.cell? ⟨w.heap.size, 2, none⟩ = some (.int .i64 c) := fun w' h => e02 w' (hz.trans h)
  replace e03 : ∀ w', Ext w2 w' → w'.cell? ⟨w.heap.size, 3, none⟩ = some (.int .i64 d) := fun w' h => e03 w' (hz.trans h)
  replace e04 : ∀ w', Ext w2 w' → w'.cell? ⟨w.heap.size, 4, none⟩ = some (.int .i64 n) := fun w' h => e04 w' (hz.trans h)
  replace e10 : ∀ w', Ext w2 w' → w'.cell? ⟨w.heap.size + 1, 0, none⟩ = some (.int .i64 p) := fun w' h => e10 w' (hz.trans h)
  replace e11 : ∀ w', Ext w2 w' → w'.cell? ⟨w.heap.size + 1, 1, none⟩ = some (.int .i64 q) := fun w' h => e11 w' (hz.trans h)
  replace e12 : ∀ w', Ext w2 w' → w'.cell? ⟨w.heap.size + 1, 2, none⟩ = some (.int .i64 u) := fun w' h => e12 w' (hz.trans h)
  replace e13 : ∀ w', Ext w2 w' → w'.cell? ⟨w.heap.size + 1, 3, none⟩ = some (.int .i64 v) := fun w' h => e13 w' (hz.trans h)
  replace e14 : ∀ w', Ext w2 w' → w'.cell? ⟨w.heap.size + 1, 4, none⟩ = some (.int .i64 m) := fun w' h => e14 w' (hz.trans h)
  go_wp2_with fail
  refine wp_region_held_drew (S := (fun w' => Ext w2 w')) (by kernel_rfl) (by (try dsimp only); first | go_keep | exact (Ext.refl _).drew | exact Res.new2.drew | exact Res.new4.drew | exact ResB.drew (by assumption) | exact ResC.drew (by assumption) | assumption | exact Ext.drew (by assumption) | exact Res.drew (by assumption)) (fun hHeld => ?_)
  refine Ord.K 0 17 ?_
  refine Ord.K 1 18 ?_
  refine Ord.K 4 21 ?_
  refine Ord.K 5 22 ?_
  (refine wpAnyH_ready (rs := [2]) (by kernel_rfl) (by simp) ?_; refine AllReadyH.cons rfl (fun K hK => ?_) AllReadyH.nil; go_simp; (first | (go_at_call 48; refine (PA.out _).mono ?_; rintro e w4 ⟨rfl, hy⟩) | (go_at_call 49; refine (PL.out _).mono ?_; rintro e w4 ⟨rfl, hy⟩) | (go_at_call 47; refine (PF.out _).mono ?_; rintro e w4 ⟨rfl, hy⟩)); go_wp2_with fail; (refine hK.out _ _ (by first | assumption | exact Ext.trans (by assumption) hy | exact Res.ext (by assumption) hy | exact ResB.ext (by assumption) hy | exact ResC.ext (by assumption) hy | (go_split_ands; (repeat' apply And.intro) <;> exact Ext.cellOf hy (by assumption))) (fun hHeld => ?_)); clear hK K; (try simp only [Act.put, Ord.a, Ord.b, Ord.c]))
  refine Ord.K 3 20 ?_
  (refine wpAnyH_ready (rs := [6]) (by kernel_rfl) (by simp) ?_; refine AllReadyH.cons rfl (fun K hK => ?_) AllReadyH.nil; go_simp; (first | (go_at_call 48; refine (PA.out _).mono ?_; rintro e w4 ⟨rfl, hy⟩) | (go_at_call 49; refine (PL.out _).mono ?_; rintro e w4 ⟨rfl, hy⟩) | (go_at_call 47; refine (PF.out _).mono ?_; rintro e w4 ⟨rfl, hy⟩)); go_wp2_with fail; (refine hK.out _ _ (by first | assumption | exact Ext.trans (by assumption) hy | exact Res.ext (by assumption) hy | exact ResB.ext (by assumption) hy | exact ResC.ext (by assumption) hy | (go_split_ands; (repeat' apply And.intro) <;> exact Ext.cellOf hy (by assumption))) (fun hHeld => ?_)); clear hK K; (try simp only [Act.put, Ord.a, Ord.b, Ord.c]))
  (refine wpAnyH_ready (rs := [7]) (by kernel_rfl) (by simp) ?_; refine AllReadyH.cons rfl (fun K hK => ?_) AllReadyH.nil; go_simp; (first | (go_at_call 48; refine (PA.out _).mono ?_; rintro e w4 ⟨rfl, hy⟩) | (go_at_call 49; refine (PL.out _).mono ?_; rintro e w4 ⟨rfl, hy⟩) | (go_at_call 47; refine (PF.out _).mono ?_; rintro e w4 ⟨rfl, hy⟩)); go_wp2_with fail; (refine hK.out _ _ (by first | assumption | exact Ext.trans (by assumption) hy | exact Res.ext (by assumption) hy | exact ResB.ext (by assumption) hy | exact ResC.ext (by assumption) hy | (go_split_ands; (repeat' apply And.intro) <;> exact Ext.cellOf hy (by assumption))) (fun hHeld => ?_)); clear hK K; (try simp only [Act.put, Ord.a, Ord.b, Ord.c]))
  refine Ord.K 8 16 ?_
  refine Ord.K 9 25 ?_
  refine Ord.K 10 26 ?_
  refine Ord.K 11 6 ?_
  refine Ord.K 12 7 ?_
  refine wpAnyH_done (by kernel_rfl) ?_ _
  go_wp2_with fail
  have g4 := e04 _ (by assumption)
  go_wp2
  go_ret2
  exact ⟨ret_int2 HV.out HC.out, hX.trans (hz.trans (by assumption))⟩

set_option maxHeartbeats 2000000 in
theorem gapBehind_spec (a b c d n p q u v m : Int) (w : World) : Calls Try.prog 21 #[Hv a b c d n, Hv p q u v m] w fun e w' => e = .returned (.tuple #[.int .i64 (gpV a b c d n p q u v m), .int .i64 (h2C a b c d n p q u v m)]) ∧ Ext w w' := by
  obtain ⟨W0, hW0⟩ : ∃ W0, W0 = (w.alloc (.cells #[.int .i64 a, .int .i64 b, .int .i64 c, .int .i64 d, .int .i64 n] 27)).alloc (.cells #[.int .i64 p, .int .i64 q, .int .i64 u, .int .i64 v, .int .i64 m] 27) := ⟨_, rfl⟩
  have hX : Ext w W0 := hW0 ▸ (((Ext.refl w).alloc _).alloc _)
  have hs0 : W0.heap.size = w.heap.size + 1 + 1 := by rw [hW0]; simp
  have e00 : ∀ w', (Ext W0) w' → w'.cell? ⟨w.heap.size, 0, none⟩ = some (.int .i64 a) := fun w' h => h.cellOf (by rw [hW0]; exact ((Ext.refl _).alloc _).cellOf (boxed 0 rfl (by simp)))
  have e01 : ∀ w', (Ext W0) w' → w'.cell? ⟨w.heap.size, 1, none⟩ = some (.int .i64 b) := fun w' h => h.cellOf (by rw [hW0]; exact ((Ext.refl _).alloc _).cellOf (boxed 1 rfl (by simp)))
  have e02 : ∀ w', (Ext W0) w' → w'.cell? ⟨w.heap.size, 2, none⟩ = some (.int .i64 c) := fun w' h => h.cellOf (by rw [hW0]; exact ((Ext.refl _).alloc _).cellOf (boxed 2 rfl (by simp)))
  have e03 : ∀ w', (Ext W0) w' → w'.cell? ⟨w.heap.size, 3, none⟩ = some (.int .i64 d) := fun w' h => h.cellOf (by rw [hW0]; exact ((Ext.refl _).alloc _).cellOf (boxed 3 rfl (by simp)))
  have e04 : ∀ w', (Ext W0) w' → w'.cell? ⟨w.heap.size, 4, none⟩ = some (.int .i64 n) := fun w' h => h.cellOf (by rw [hW0]; exact ((Ext.refl _).alloc _).cellOf (boxed 4 rfl (by simp)))
  have e10 : ∀ w', (Ext W0) w' → w'.cell? ⟨w.heap.size + 1, 0, none⟩ = some (.int .i64 p) := fun w' h => h.cellOf (by rw [hW0]; exact boxed 0 rfl (by simp))
  have e11 : ∀ w', (Ext W0) w' → w'.cell? ⟨w.heap.size + 1, 1, none⟩ = some (.int .i64 q) := fun w' h => h.cellOf (by rw [hW0]; exact boxed 1 rfl (by simp))
  have e12 : ∀ w', (Ext W0) w' → w'.cell? ⟨w.heap.size + 1, 2, none⟩ = some (.int .i64 u) := fun w' h => h.cellOf (by rw [hW0]; exact boxed 2 rfl (by simp))
  have e13 : ∀ w', (Ext W0) w' → w'.cell? ⟨w.heap.size + 1, 3, none⟩ = some (.int .i64 v) := fun w' h => h.cellOf (by rw [hW0]; exact boxed 3 rfl (by simp))
  have e14 : ∀ w', (Ext W0) w' → w'.cell? ⟨w.heap.size + 1, 4, none⟩ = some (.int .i64 m) := fun w' h => h.cellOf (by rw [hW0]; exact boxed 4 rfl (by simp))
  go_enter Try.func21, Try.ntmps21
  go_wp2_with fail
  rw [← hW0]
  clear hW0
  refine (isHull_spec _ _ _ _ _ _).mono ?_
  rintro e w1 ⟨rfl, hz⟩
  replace hz : Ext W0 w1 := hz
  cases h1 : hlB a b c d n
  · have HB := Lib.hid (h2_no1 (p := p) (q := q) (u := u) (v := v) (m := m) h1)
    have HV := Lib.hid (show gpV a b c d n p q u v m = 0 from if_no HB.out)
    have HC := Lib.hid (show h2C a b c d n p q u v m = 1 from if_no HB.out)
    go_wp2
    go_ret2
    exact ⟨ret_int2 HV.out HC.out, hX.trans hz⟩
  have g10 := e10 w1 hz; have g11 := e11 w1 hz; have g12 := e12 w1 hz; have g13 := e13 w1 hz; have g14 := e14 w1 hz
  go_wp2_with fail
  refine (isHull_spec _ _ _ _ _ _).mono ?_
  rintro e w2 ⟨rfl, hy⟩
  replace hz := hz.trans hy
  clear hy g10 g11 g12 g13 g14
  cases h2 : hlB p q u v m
  · have HB := Lib.hid (h2_no2 (a := a) (b := b) (c := c) (d := d) (n := n) h2)
    have HV := Lib.hid (show gpV a b c d n p q u v m = 0 from if_no HB.out)
    have HC := Lib.hid (show h2C a b c d n p q u v m = 1 from if_no HB.out)
    go_wp2
    go_ret2
    exact ⟨ret_int2 HV.out HC.out, hX.trans hz⟩
  have HB := Lib.hid (h2_yes h1 h2)
  have HC := Lib.hid (show h2C a b c d n p q u v m = 0 from if_yes HB.out)
  obtain ⟨⟨ha, hb⟩, ⟨hc, hd, hn⟩, n1, n2⟩ := hlB_yes h1
  have A0 := al_bd h1 (hlB_yes h2).1.1 (hlB_yes h2).1.2
  have PA := Lib.hid (fun w => alongS_any a b c d n p q u v m w h1 (hlB_yes h2).1.1 (hlB_yes h2).1.2)
  have PL := Lib.hid (fun w => normS_any a b c d n w hc hd)
  obtain ⟨l1, l2⟩ := ln2_pos hc hd hn
  have HV0 : gpV a b c d n p q u v m = flo (-alH a b c d p q) (ln2 c d) - n := if_yes HB.out
  obtain ⟨D, hD⟩ : ∃ D, D = alH a b c d p q := ⟨_, rfl⟩
  obtain ⟨L, hL⟩ : ∃ L, L = ln2 c d := ⟨_, rfl⟩
  rw [← hD] at PA A0 HV0
  rw [← hL] at PL l1 l2 HV0
  have F0 := fl_bd (a := -D) l1 8000000000000 (by omega) (by omega)
  have PF := Lib.hid (fun w => floor_any (-D) L w l1 (by omega) (by omega))
  have TN : IntKind.i64.wrap (-D) = -D := IntWalk.i64_in _ (by omega)
  obtain ⟨E, hE⟩ : ∃ E, E = flo (-D) L := ⟨_, rfl⟩
  rw [← hE] at PF HV0 F0
  have TS : IntKind.i64.wrap (E - n) = E - n := IntWalk.i64_in _ (by omega)
  have HV := Lib.hid HV0
  clear HV0 hD hL hE hn ha hb hc hd l1 l2 A0 F0 n1 n2
  have hr := Ext.refl w2
  replace e00 : ∀ w', Ext w2 w' → w'.cell? ⟨w.heap.size, 0, none⟩ = some (.int .i64 a) := fun w' h => e00 w' (hz.trans h)
  replace e01 : ∀ w', Ext w2 w' → w'.cell? ⟨w.heap.size, 1, none⟩ = some (.int .i64 b) := fun w' h => e01 w' (hz.trans h)
  replace e02 : ∀ w', Ext w2 w' → w'.cell? ⟨w.heap.size, 2, none⟩ = some (.int .i64 c) := fun w' h => e02 w' (hz.trans h)
  replace e03 : ∀ w', Ext w2 w' → w'.cell? ⟨w.heap.size, 3, none⟩ = some (.int .i64 d) := fun w' h => e03 w' (hz.trans h)
  replace e04 : ∀ w', Ext w2 w' → w'.cell? ⟨w.heap.size, 4, none⟩ = some (.int .i64 n) := fun w' h => e04 w' (hz.trans h)
  replace e10 : ∀ w', Ext w2 w' → w'.cell? ⟨w.heap.size + 1, 0, none⟩ = some (.int .i64 p) := fun w' h => e10 w' (hz.trans h)
  replace e11 : ∀ w', Ext w2 w' → w'.cell? ⟨w.heap.size + 1, 1, none⟩ = some (.int .i64 q) := fun w' h => e11 w' (hz.trans h)
  replace e12 : ∀ w', Ext w2 w' → w'.cell? ⟨w.heap.size + 1, 2, none⟩ = some (.int .i64 u) := fun w' h => e12 w' (hz.trans h)
  replace e13 : ∀ w', Ext w2 w' → w'.cell? ⟨w.heap.size + 1, 3, none⟩ = some (.int .i64 v) := fun w' h => e13 w' (hz.trans h)
  replace e14 : ∀ w', Ext w2 w' → w'.cell? ⟨w.heap.size + 1, 4, none⟩ = some (.int .i64 m) := fun w' h => e14 w' (hz.trans h)
  go_wp2_with fail
  refine wp_region_held_drew (S := (fun w' => Ext w2 w')) (by kernel_rfl) (by (try dsimp only); first | go_keep | exact (Ext.refl _).drew | exact Res.new2.drew | exact Res.new4.drew | exact ResB.drew (by assumption) | exact ResC.drew (by assumption) | assumption | exact Ext.drew (by assumption) | exact Res.drew (by assumption)) (fun hHeld => ?_)
  refine Ord.K 0 14 ?_
  refine Ord.K 1 15 ?_
  refine Ord.K 4 18 ?_
  refine Ord.K 7 21 ?_
  refine Ord.K 8 22 ?_
  (refine wpAnyH_ready (rs := [2]) (by kernel_rfl) (by simp) ?_; refine AllReadyH.cons rfl (fun K hK => ?_) AllReadyH.nil; go_simp; (first | (go_at_call 51; refine (PA.out _).mono ?_; rintro e w4 ⟨rfl, hy⟩) | (go_at_call 52; refine (PL.out _).mono ?_; rintro e w4 ⟨rfl, hy⟩) | (go_at_call 50; refine (PF.out _).mono ?_; rintro e w4 ⟨rfl, rfl⟩)); go_wp2_with fail; (refine hK.out _ _ (by first | assumption | exact Ext.trans (by assumption) hy | exact Res.ext (by assumption) hy | exact ResB.ext (by assumption) hy | exact ResC.ext (by assumption) hy | (go_split_ands; (repeat' apply And.intro) <;> exact Ext.cellOf hy (by assumption))) (fun hHeld => ?_)); clear hK K; (try simp only [Act.put, Ord.a, Ord.b, Ord.c]))
  refine Ord.K 3 17 ?_
  (refine wpAnyH_ready (rs := [5]) (by kernel_rfl) (by simp) ?_; refine AllReadyH.cons rfl (fun K hK => ?_) AllReadyH.nil; go_simp; (first | (go_at_call 51; refine (PA.out _).mono ?_; rintro e w4 ⟨rfl, hy⟩) | (go_at_call 52; refine (PL.out _).mono ?_; rintro e w4 ⟨rfl, hy⟩) | (go_at_call 50; refine (PF.out _).mono ?_; rintro e w4 ⟨rfl, rfl⟩)); go_wp2_with fail; (refine hK.out _ _ (by first | assumption | exact Ext.trans (by assumption) hy | exact Res.ext (by assumption) hy | exact ResB.ext (by assumption) hy | exact ResC.ext (by assumption) hy | (go_split_ands; (repeat' apply And.intro) <;> exact Ext.cellOf hy (by assumption))) (fun hHeld => ?_)); clear hK K; (try simp only [Act.put, Ord.a, Ord.b, Ord.c]))
  (refine wpAnyH_ready (rs := [6]) (by kernel_rfl) (by simp) ?_; refine AllReadyH.cons rfl (fun K hK => ?_) AllReadyH.nil; go_simp; (first | (go_at_call 51; refine (PA.out _).mono ?_; rintro e w4 ⟨rfl, hy⟩) | (go_at_call 52; refine (PL.out _).mono ?_; rintro e w4 ⟨rfl, hy⟩) | (go_at_call 50; refine (PF.out _).mono ?_; rintro e w4 ⟨rfl, rfl⟩)); go_wp2_with fail; (refine hK.out _ _ (by first | assumption | exact Ext.trans (by assumption) hy | exact Res.ext (by assumption) hy | exact ResB.ext (by assumption) hy | exact ResC.ext (by assumption) hy | (go_split_ands; (repeat' apply And.intro) <;> exact Ext.cellOf hy (by assumption))) (fun hHeld => ?_)); clear hK K; (try simp only [Act.put, Ord.a, Ord.b, Ord.c]))
  refine Ord.K 9 23 ?_
  refine Ord.K 10 4 ?_
  refine Ord.K 11 5 ?_
  refine wpAnyH_done (by kernel_rfl) ?_ _
  go_wp2
  go_ret2
  exact ⟨ret_int2 HV.out HC.out, hX.trans (hz.trans (by assumption))⟩

end Go.Proofs.Ytdcnfeimfpafiaa.Hul
