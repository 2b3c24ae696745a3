import Derived.Test.YtknelhceaoblhaaGreatMWnd2
import Derived.Test.YtknelhceaoblhaaGreatRsz
import Derived.Test.YtknelhceaoblhaaGreatRat2
import Derived.Test.YtknelhceaoblhaaGreatWin
import Derived.Test.YtknelhceaoblhaaGreatRes
import Derived.Test.YtknelhceaoblhaaGreatWid
import Derived.Maps.RangeRun
import Derived.Laws.IdiomRangeMap
import Derived.Deep.DeepCutAuto
namespace Go.Proofs.YtknelhceaoblhaaGreat.Hul
open Go.ChangeShapes Go.WideShapes Go.ChangeAt Go.RowKit
open Go.Proofs.YtknelhceaoblhaaGreat.Num Go.Proofs.YtknelhceaoblhaaGreat.Kit Go.Proofs.YtknelhceaoblhaaGreat.Pts Go.Proofs.YtknelhceaoblhaaGreat.Seg Go.Proofs.YtknelhceaoblhaaGreat.Wnd Go.Proofs.YtknelhceaoblhaaGreat.Rt Go.Proofs.YtknelhceaoblhaaGreat.Cmp
open Go.Proofs.YtknelhceaoblhaaGreat.Rsz (resized_any)
open Go.Proofs.YtknelhceaoblhaaGreat.Lth (ln2 ln2_pos length_any sqs_bd)
set_option linter.unusedVariables false
set_option linter.unusedSimpArgs false
theorem fl_bd {a b : Int} (hb : 1 ≤ b) (M : Int) (h1 : -M ≤ a) (h2 : a ≤ M) : -M - 1 ≤ flo a b ∧ flo a b ≤ M := by
  obtain ⟨g1, g2⟩ := tdiv_bd hb M h1 h2
  unfold flo
  split <;> omega
def stX (a c d n : Int) : Int := a - flo (c * n) (ln2 c d)
def stY (b c d n : Int) : Int := b - flo (d * n) (ln2 c d)
theorem st_bd {a b c d n : Int} (h : hlB a b c d n = true) :
    (-2000000001 ≤ flo (c * n) (ln2 c d) ∧ flo (c * n) (ln2 c d) ≤ 2000000000) ∧ (-2000000001 ≤ flo (d * n) (ln2 c d) ∧ flo (d * n) (ln2 c d) ≤ 2000000000) := by
  obtain ⟨⟨ha, hb⟩, ⟨hc, hd, hn⟩, n1, n2⟩ := hlB_yes h
  obtain ⟨l1, l2⟩ := ln2_pos hc hd hn
  obtain ⟨a1, a2⟩ := mul_bd 2000000 1000 hc (y := n) ⟨by omega, by omega⟩
  obtain ⟨b1, b2⟩ := mul_bd 2000000 1000 hd (y := n) ⟨by omega, by omega⟩
  simp only [Int.reduceMul, Int.reduceNeg] at a1 a2 b1 b2
  have c1 := fl_bd l1 2000000000 a1 a2
  have d1 := fl_bd l1 2000000000 b1 b2
  omega
set_option maxHeartbeats 1000000 in
theorem sternI_any (a b c d n : Int) (w : World) (h : hlB a b c d n = true) : Calls Tryz.prog 164 #[Hv a b c d n] w fun e w' => e = .returned (Pt (stX a c d n) (stY b c d n)) ∧ Ext w w' := by
  obtain ⟨k1, k2⟩ := st_bd h
  obtain ⟨⟨ha, hb⟩, ⟨hc, hd, hn⟩, n1, n2⟩ := hlB_yes h
  unfold Co at ha hb
  have PR := Lib.hid (fun w => resized_any c d n w hc hd ⟨by omega, by omega⟩ hn)
  unfold stX stY
  obtain ⟨E, hE⟩ : ∃ E, E = flo (c * n) (ln2 c d) := ⟨_, rfl⟩
  obtain ⟨F, hF⟩ : ∃ F, F = flo (d * n) (ln2 c d) := ⟨_, rfl⟩
  rw [← hE] at PR k1 ⊢
  rw [← hF] at PR k2 ⊢
  have T1 : IntKind.i64.wrap (a - E) = a - E := IntWalk.i64_in _ (by omega)
  have T2 : IntKind.i64.wrap (b - F) = b - F := IntWalk.i64_in _ (by omega)
  clear hE hF hn
  obtain ⟨W0, hW0⟩ : ∃ W0, W0 = (w.alloc (.cells #[.int .i64 a, .int .i64 b, .int .i64 c, .int .i64 d, .int .i64 n] 115)).alloc (.cells #[.int .i64 0, .int .i64 0] 113) := ⟨_, rfl⟩
  have hX : Ext w W0 := hW0 ▸ (((Ext.refl w).alloc _).alloc _)
  have hs0 : W0.heap.size = w.heap.size + 1 + 1 := by rw [hW0]; simp
  have e00 : ∀ w', (Ext W0) w' → w'.cell? ⟨w.heap.size, 0, none⟩ = some (.int .i64 a) := fun w' h => h.cellOf (by rw [hW0]; exact ((Ext.refl _).alloc _).cellOf (boxed 0 rfl (by simp)))
  have e01 : ∀ w', (Ext W0) w' → w'.cell? ⟨w.heap.size, 1, none⟩ = some (.int .i64 b) := fun w' h => h.cellOf (by rw [hW0]; exact ((Ext.refl _).alloc _).cellOf (boxed 1 rfl (by simp)))
  have e02 : ∀ w', (Ext W0) w' → w'.cell? ⟨w.heap.size, 2, none⟩ = some (.int .i64 c) := fun w' h => h.cellOf (by rw [hW0]; exact ((Ext.refl _).alloc _).cellOf (boxed 2 rfl (by simp)))
  have e03 : ∀ w', (Ext W0) w' → w'.cell? ⟨w.heap.size, 3, none⟩ = some (.int .i64 d) := fun w' h => h.cellOf (by rw [hW0]; exact ((Ext.refl _).alloc _).cellOf (boxed 3 rfl (by simp)))
  have e04 : ∀ w', (Ext W0) w' → w'.cell? ⟨w.heap.size, 4, none⟩ = some (.int .i64 n) := fun w' h => h.cellOf (by rw [hW0]; exact ((Ext.refl _).alloc _).cellOf (boxed 4 rfl (by simp)))
  have e10 : ∀ w', (Ext W0) w' → w'.cell? ⟨w.heap.size + 1, 0, none⟩ = some (.int .i64 0) := fun w' h => h.cellOf (by rw [hW0]; exact boxed 0 rfl (by simp))
  have e11 : ∀ w', (Ext W0) w' → w'.cell? ⟨w.heap.size + 1, 1, none⟩ = some (.int .i64 0) := fun w' h => h.cellOf (by rw [hW0]; exact boxed 1 rfl (by simp))
  have B2 := Lib.hid (show Box W0 (w.heap.size + 1) [.int .i64 0, .int .i64 0] from hW0 ▸ Box.new2 (by simp))
  go_enter Tryz.func164, Tryz.ntmps164
  go_wp2_with fail
  rw [← hW0]
  clear hW0
  refine (PR.out _).mono ?_
  rintro e w1 ⟨rfl, hz⟩
  obtain ⟨W1, hW1⟩ : ∃ W1, W1 = w1.alloc (.cells #[.int .i64 E, .int .i64 F] 113) := ⟨_, rfl⟩
  have X1 := Lib.hid (show Ext W0 W1 from hW1 ▸ hz.alloc _)
  have P1 := Lib.hid (show Box W1 w1.heap.size [.int .i64 E, .int .i64 F] from hW1 ▸ Box.new2 rfl)
  go_upto_region 2 with fail
  rw [← hW1]
  clear hW1
  have g00 := e00 W1 X1.out
  have g01 := e01 W1 X1.out
  obtain ⟨⟨p0, p1⟩, _, _⟩ := P1.out.two
  obtain ⟨⟨r0, r1⟩, r2, r3⟩ := (B2.out.ext X1.out).two
  have BR := Lib.hid ((B2.out.ext X1.out).set2 (u := .int .i64 (a - E)) (v := .int .i64 (b - F)))
  go_wp2
  obtain ⟨⟨q0, q1⟩, _⟩ := BR.out.two
  exact bodyPost_ret (v := Pt (a - E) (b - F)) (by simp [results, Tryz.results164, go_sem, q0, q1]) rfl ⟨rfl, ((hX.trans X1.out).setNew (by first | omega | (simp; omega) | simp) _).setNew (by first | omega | (simp; omega) | simp) _⟩
set_option maxHeartbeats 1000000 in
theorem axisI_any (a b c d n : Int) (w : World) (h : hlB a b c d n = true) : Calls Tryz.prog 122 #[Hv a b c d n] w fun e w' => e = .returned (Sg (stX a c d n) (stY b c d n) a b) ∧ Ext w w' := by
  have PS := Lib.hid (fun w => sternI_any a b c d n w h)
  obtain ⟨E, hE⟩ : ∃ E, E = stX a c d n := ⟨_, rfl⟩
  obtain ⟨F, hF⟩ : ∃ F, F = stY b c d n := ⟨_, rfl⟩
  rw [← hE, ← hF] at PS ⊢
  clear hE hF h
  obtain ⟨W0, hW0⟩ : ∃ W0, W0 = w.alloc (.cells #[.int .i64 a, .int .i64 b, .int .i64 c, .int .i64 d, .int .i64 n] 115) := ⟨_, rfl⟩
  have hX : Ext w W0 := hW0 ▸ ((Ext.refl w).alloc _)
  have hs0 : W0.heap.size = w.heap.size + 1 := by rw [hW0]; simp
  have e00 : ∀ w', (Res W0 (w.heap.size + 1) 4) w' → w'.cell? ⟨w.heap.size, 0, none⟩ = some (.int .i64 a) := fun w' h => h.1.cellOf (by rw [hW0]; exact boxed 0 rfl (by simp))
  have e01 : ∀ w', (Res W0 (w.heap.size + 1) 4) w' → w'.cell? ⟨w.heap.size, 1, none⟩ = some (.int .i64 b) := fun w' h => h.1.cellOf (by rw [hW0]; exact boxed 1 rfl (by simp))
  have e02 : ∀ w', (Res W0 (w.heap.size + 1) 4) w' → w'.cell? ⟨w.heap.size, 2, none⟩ = some (.int .i64 c) := fun w' h => h.1.cellOf (by rw [hW0]; exact boxed 2 rfl (by simp))
  have e03 : ∀ w', (Res W0 (w.heap.size + 1) 4) w' → w'.cell? ⟨w.heap.size, 3, none⟩ = some (.int .i64 d) := fun w' h => h.1.cellOf (by rw [hW0]; exact boxed 3 rfl (by simp))
  have e04 : ∀ w', (Res W0 (w.heap.size + 1) 4) w' → w'.cell? ⟨w.heap.size, 4, none⟩ = some (.int .i64 n) := fun w' h => h.1.cellOf (by rw [hW0]; exact boxed 4 rfl (by simp))
  have S0 := Lib.hid (Res.new4 (W := W0) (x := .int .i64 0) (y := .int .i64 0) (z := .int .i64 0) (u := .int .i64 0) (t := 144))
  rw [hs0] at S0
  go_enter Tryz.func122, Tryz.ntmps122
  go_wp2_with fail
  rw [← hW0]
  have S1 := S0.out
  clear hW0 hs0 S0
  generalize W0.alloc (.cells #[.int .i64 0, .int .i64 0, .int .i64 0, .int .i64 0] 144) = V at *
  refine wp_region_held_drew (S := (Res W0 (w.heap.size + 1) 4)) (by kernel_rfl) (by (try dsimp only); first | go_keep | exact (Ext.refl _).drew | exact Res.new2.drew | exact Res.new4.drew | exact ResB.drew (by assumption) | exact ResC.drew (by assumption) | assumption | exact Ext.drew (by assumption) | exact Res.drew (by assumption)) (fun hHeld => ?_)
  refine Ord.K 0 3 ?_
  refine Ord.K 2 5 ?_
  refine Ord.K 3 6 ?_
  (refine wpAnyH_ready (rs := [1]) (by kernel_rfl) (by simp) ?_; refine AllReadyH.cons rfl (fun K hK => ?_) AllReadyH.nil; go_simp; (go_at_call 164; refine (PS.out _).mono ?_; rintro e w2 ⟨rfl, hy⟩); go_wp2_with fail; (refine hK.out _ _ (by first | assumption | exact Ext.trans (by assumption) hy | exact Res.ext (by assumption) hy | exact ResB.ext (by assumption) hy | exact ResC.ext (by assumption) hy | (go_split_ands; (repeat' apply And.intro) <;> exact Ext.cellOf hy (by assumption))) (fun hHeld => ?_)); clear hK K; (try simp only [Act.put, Ord.a, Ord.b, Ord.c]))
  refine Ord.K 4 7 ?_
  (((first | refine Exists.elim (Res.four hHeld) (fun rx rh => ?_) | refine Exists.elim (Res.four hHeld.1) (fun rx rh => ?_)); refine Exists.elim rh (fun ry rh => ?_); refine Exists.elim rh (fun rz rh => ?_); refine Exists.elim rh (fun ru rb => ?_); have r0 := rb.four.1.1; have r1 := rb.four.1.2.1; have r2 := rb.four.1.2.2.1; have r3 := rb.four.1.2.2.2; have r4 := rb.four.2.1; have r5 := rb.four.2.2.1; have r6 := rb.four.2.2.2.1; have r7 := rb.four.2.2.2.2; clear rh); refine wpAnyH_ready (rs := [5]) (by kernel_rfl) (by simp) ?_; refine AllReadyH.cons rfl (fun K hK => ?_) AllReadyH.nil; go_simp; (refine hK.out _ _ (by with_reducible exact Res.set (Res.set (Res.set (Res.set hHeld _ _) _ _) _ _) _ _) (fun hHeld => ?_)); clear hK K; (try simp only [Act.put, Ord.a, Ord.b, Ord.c]))
  refine wpAnyH_done (by kernel_rfl) ?_ _
  go_wp2
  obtain ⟨⟨g0, g1, g2, g3⟩, _⟩ := (rb.set4 (a := .int .i64 E) (b := .int .i64 F) (c := .int .i64 a) (d := .int .i64 b)).four
  exact bodyPost_ret (v := Sg E F a b) (by simp [results, Tryz.results122, go_sem, g0, g1, g2, g3]) rfl ⟨rfl, hX.trans hHeld.1⟩
end Go.Proofs.YtknelhceaoblhaaGreat.Hul
namespace Go.Proofs.YtknelhceaoblhaaGreat.Hul
open Go.ChangeShapes Go.WideShapes Go.ChangeAt Go.RowKit
open Go.Proofs.YtknelhceaoblhaaGreat.Num Go.Proofs.YtknelhceaoblhaaGreat.Kit Go.Proofs.YtknelhceaoblhaaGreat.Pts Go.Proofs.YtknelhceaoblhaaGreat.Seg Go.Proofs.YtknelhceaoblhaaGreat.Wnd Go.Proofs.YtknelhceaoblhaaGreat.Rt Go.Proofs.YtknelhceaoblhaaGreat.Root
open Go.Proofs.YtknelhceaoblhaaGreat.Lth (ln2 ln2_pos sqs_bd)
set_option linter.unusedVariables false
set_option linter.unusedSimpArgs false
theorem normS_any (a b c d n : Int) (w : World) (hc : -2000000 ≤ c ∧ c ≤ 2000000) (hd : -2000000 ≤ d ∧ d ≤ 2000000) : Calls Tryz.prog 132 #[Hv a b c d n] w fun e w' => e = .returned (.int .i64 (ln2 c d)) ∧ Ext w w' := by
  obtain ⟨b0, b1⟩ := sqs_bd hc hd
  have PD := Lib.hid (fun w => dot_any c d c d w hc hd hc hd)
  unfold ln2
  obtain ⟨Q, hQ⟩ : ∃ Q, Q = c * c + d * d := ⟨_, rfl⟩
  rw [← hQ] at PD b0 b1 ⊢
  clear hQ
  have PR := Lib.hid (fun w => root_any Q w b0 (by omega))
  obtain ⟨R, hR⟩ : ∃ R, R = rt Q := ⟨_, rfl⟩
  rw [← hR] at PR ⊢
  clear hR
  go_enter Tryz.func132, Tryz.ntmps132
  go_wp2_with fail
  refine (PD.out _).mono ?_
  rintro e w1 ⟨rfl, hx1⟩
  go_wp2_with fail
  refine (PR.out _).mono ?_
  rintro e w2 ⟨rfl, rfl⟩
  go_wp2
  go_ret
  exact ⟨rfl, (by repeat (first | exact Ext.refl _ | assumption | apply Ext.alloc | apply Ext.drew | (refine Ext.trans ?_ (by assumption)) | (refine Ext.setNew ?_ (by simp <;> omega) _)))⟩
set_option maxHeartbeats 2000000 in
theorem sternS_any (a b c d n : Int) (w : World) (h : hlB a b c d n = true) : Calls Tryz.prog 96 #[Hv a b c d n] w fun e w' => e = .returned (Pt (stX a c d n) (stY b c d n)) ∧ Ext w w' := by
  obtain ⟨k1, k2⟩ := st_bd h
  obtain ⟨⟨ha, hb⟩, ⟨hc, hd, hn⟩, n1, n2⟩ := hlB_yes h
  unfold Co at ha hb
  have PN := Lib.hid (fun w => normS_any a b c d n w hc hd)
  obtain ⟨l1, l2⟩ := ln2_pos hc hd hn
  obtain ⟨a1, a2⟩ := mul_bd 2000000 1000 hc (y := n) ⟨by omega, by omega⟩
  obtain ⟨b1, b2⟩ := mul_bd 2000000 1000 hd (y := n) ⟨by omega, by omega⟩
  simp only [Int.reduceMul, Int.reduceNeg] at a1 a2 b1 b2
  unfold stX stY
  obtain ⟨L, hL⟩ : ∃ L, L = ln2 c d := ⟨_, rfl⟩
  rw [← hL] at PN k1 k2 l1 ⊢
  have PE := Lib.hid (fun w => floor_any (c * n) L w l1 (by omega) (by omega))
  have PF := Lib.hid (fun w => floor_any (d * n) L w l1 (by omega) (by omega))
  have T3 : IntKind.i64.wrap (c * n) = c * n := IntWalk.i64_in _ (by omega)
  have T4 : IntKind.i64.wrap (d * n) = d * n := IntWalk.i64_in _ (by omega)
  obtain ⟨E, hE⟩ : ∃ E, E = flo (c * n) L := ⟨_, rfl⟩
  obtain ⟨F, hF⟩ : ∃ F, F = flo (d * n) L := ⟨_, rfl⟩
  rw [← hE] at PE k1 ⊢
  rw [← hF] at PF k2 ⊢
  have T1 : IntKind.i64.wrap (a - E) = a - E := IntWalk.i64_in _ (by omega)
  have T2 : IntKind.i64.wrap (b - F) = b - F := IntWalk.i64_in _ (by omega)
  clear hE hF hn hL l2 a1 a2 b1 b2
  obtain ⟨W0, hW0⟩ : ∃ W0, W0 = w.alloc (.cells #[.int .i64 a, .int .i64 b, .int .i64 c, .int .i64 d, .int .i64 n] 115) := ⟨_, rfl⟩
  have hX : Ext w W0 := hW0 ▸ ((Ext.refl w).alloc _)
  have hs0 : W0.heap.size = w.heap.size + 1 := by rw [hW0]; simp
  have e00 : ∀ w', (Res W0 (w.heap.size + 1) 2) w' → w'.cell? ⟨w.heap.size, 0, none⟩ = some (.int .i64 a) := fun w' h => h.1.cellOf (by rw [hW0]; exact boxed 0 rfl (by simp))
  have e01 : ∀ w', (Res W0 (w.heap.size + 1) 2) w' → w'.cell? ⟨w.heap.size, 1, none⟩ = some (.int .i64 b) := fun w' h => h.1.cellOf (by rw [hW0]; exact boxed 1 rfl (by simp))
  have e02 : ∀ w', (Res W0 (w.heap.size + 1) 2) w' → w'.cell? ⟨w.heap.size, 2, none⟩ = some (.int .i64 c) := fun w' h => h.1.cellOf (by rw [hW0]; exact boxed 2 rfl (by simp))
  have e03 : ∀ w', (Res W0 (w.heap.size + 1) 2) w' → w'.cell? ⟨w.heap.size, 3, none⟩ = some (.int .i64 d) := fun w' h => h.1.cellOf (by rw [hW0]; exact boxed 3 rfl (by simp))
  have e04 : ∀ w', (Res W0 (w.heap.size + 1) 2) w' → w'.cell? ⟨w.heap.size, 4, none⟩ = some (.int .i64 n) := fun w' h => h.1.cellOf (by rw [hW0]; exact boxed 4 rfl (by simp))
  have S0 := Lib.hid (Res.new2 (W := W0) (x := .int .i64 0) (y := .int .i64 0) (t := 113))
  rw [hs0] at S0
  go_enter Tryz.func96, Tryz.ntmps96
  go_wp2_with fail
  rw [← hW0]
  have S1 := S0.out
  clear hW0 hs0 S0
  generalize W0.alloc (.cells #[.int .i64 0, .int .i64 0] 113) = V at *
  refine (PN.out _).mono ?_
  rintro e w1 ⟨rfl, hy⟩
  have S2 := S1.ext hy
  clear hy S1
  go_wp2_with fail
  refine wp_region_held_drew (S := (Res W0 (w.heap.size + 1) 2)) (by kernel_rfl) (by (try dsimp only); first | go_keep | exact (Ext.refl _).drew | exact Res.new2.drew | exact Res.new4.drew | exact ResB.drew (by assumption) | exact ResC.drew (by assumption) | assumption | exact Ext.drew (by assumption) | exact Res.drew (by assumption)) (fun hHeld => ?_)
  generalize w1.drew = wd at hHeld ⊢
  refine Ord.K 0 6 ?_
  refine Ord.K 1 7 ?_
  refine Ord.K 2 8 ?_
  refine Ord.K 3 9 ?_
  refine Ord.K 4 10 ?_
  refine Ord.K 5 11 ?_
  refine Ord.K 6 12 ?_
  refine Ord.K 7 13 ?_
  refine Ord.K 8 14 ?_
  refine Ord.K 9 15 ?_
  refine Ord.K 12 18 ?_
  refine Ord.K 13 19 ?_
  refine Ord.K 14 20 ?_
  refine Ord.K 15 21 ?_
  refine Ord.K 16 22 ?_
  refine Ord.K 17 23 ?_
  refine Ord.K 18 24 ?_
  refine Ord.K 19 25 ?_
  refine Ord.K 20 26 ?_
  refine Ord.K 21 27 ?_
  (refine wpAnyH_ready (rs := [10]) (by kernel_rfl) (by simp) ?_; refine AllReadyH.cons rfl (fun K hK => ?_) AllReadyH.nil; go_simp; (first | (go_at_call 133; with_reducible refine (PE.out _).mono ?_; rintro e w2 ⟨rfl, rfl⟩) | (go_at_call 133; with_reducible refine (PF.out _).mono ?_; rintro e w2 ⟨rfl, rfl⟩)); go_wp2_with fail; (refine hK.out _ _ (by first | assumption | exact Ext.trans (by assumption) hy | exact Res.ext (by assumption) hy | exact ResB.ext (by assumption) hy | exact ResC.ext (by assumption) hy | (go_split_ands; (repeat' apply And.intro) <;> exact Ext.cellOf hy (by assumption))) (fun hHeld => ?_)); clear hK K; (try simp only [Act.put, Ord.a, Ord.b, Ord.c]))
  refine Ord.K 11 17 ?_
  (refine wpAnyH_ready (rs := [22]) (by kernel_rfl) (by simp) ?_; refine AllReadyH.cons rfl (fun K hK => ?_) AllReadyH.nil; go_simp; (first | (go_at_call 133; with_reducible refine (PE.out _).mono ?_; rintro e w2 ⟨rfl, rfl⟩) | (go_at_call 133; with_reducible refine (PF.out _).mono ?_; rintro e w2 ⟨rfl, rfl⟩)); go_wp2_with fail; (refine hK.out _ _ (by first | assumption | exact Ext.trans (by assumption) hy | exact Res.ext (by assumption) hy | exact ResB.ext (by assumption) hy | exact ResC.ext (by assumption) hy | (go_split_ands; (repeat' apply And.intro) <;> exact Ext.cellOf hy (by assumption))) (fun hHeld => ?_)); clear hK K; (try simp only [Act.put, Ord.a, Ord.b, Ord.c]))
  refine Ord.K 23 29 ?_
  refine Ord.K 24 30 ?_
  (((first | refine Exists.elim (Res.two hHeld) (fun rx rh => ?_) | refine Exists.elim (ResC.two hHeld) (fun rx rh => ?_) | refine Exists.elim (Res.two hHeld.1) (fun rx rh => ?_)); refine Exists.elim rh (fun ry rb => ?_); have r0 := rb.two.1.1; have r1 := rb.two.1.2; have r2 := rb.two.2.1; have r3 := rb.two.2.2; clear rh); refine wpAnyH_ready (rs := [25]) (by kernel_rfl) (by simp) ?_; refine AllReadyH.cons rfl (fun K hK => ?_) AllReadyH.nil; go_simp; (refine hK.out _ _ (by with_reducible exact Res.set (Res.set hHeld _ _) _ _) (fun hHeld => ?_)); clear hK K; (try simp only [Act.put, Ord.a, Ord.b, Ord.c]))
  refine wpAnyH_done (by kernel_rfl) ?_ _
  go_wp2
  obtain ⟨⟨g0, g1⟩, _⟩ := (rb.set2 (u := .int .i64 (a - E)) (v := .int .i64 (b - F))).two
  exact bodyPost_ret (v := Pt (a - E) (b - F)) (by simp [results, Tryz.results96, go_sem, g0, g1]) rfl ⟨rfl, hX.trans hHeld.1⟩
end Go.Proofs.YtknelhceaoblhaaGreat.Hul
namespace Go.Proofs.YtknelhceaoblhaaGreat.Hul
open Go.ChangeShapes Go.WideShapes Go.ChangeAt Go.RowKit
open Go.Proofs.YtknelhceaoblhaaGreat.Num Go.Proofs.YtknelhceaoblhaaGreat.Kit Go.Proofs.YtknelhceaoblhaaGreat.Pts Go.Proofs.YtknelhceaoblhaaGreat.Seg Go.Proofs.YtknelhceaoblhaaGreat.Wnd
set_option linter.unusedVariables false
set_option linter.unusedSimpArgs false
end Go.Proofs.YtknelhceaoblhaaGreat.Hul
