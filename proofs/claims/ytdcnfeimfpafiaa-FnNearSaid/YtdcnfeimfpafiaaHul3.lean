/- Hulls (chapter 9): length, stern, how far ahead, clear astern, relation (spec). -/
import Derived.Test.YtdcnfeimfpafiaaHul2
import Derived.Test.YtdcnfeimfpafiaaWid
namespace Go.Proofs.Ytdcnfeimfpafiaa.Hul
open Go.ChangeShapes Go.WideShapes Go.ChangeAt Go.RowKit
open Go.Proofs.Ytdcnfeimfpafiaa.Num Go.Proofs.Ytdcnfeimfpafiaa.Kit Go.Proofs.Ytdcnfeimfpafiaa.Pts Go.Proofs.Ytdcnfeimfpafiaa.Seg Go.Proofs.Ytdcnfeimfpafiaa.Wnd Go.Proofs.Ytdcnfeimfpafiaa.Rt Go.Proofs.Ytdcnfeimfpafiaa.Root
open Go.Proofs.Ytdcnfeimfpafiaa.Lth (ln2 ln2_pos sqs_bd)
set_option linter.unusedVariables false
set_option linter.unusedSimpArgs false

theorem normS_any (a b c d n : Int) (w : World) (hc : -2000000 ≤ c ∧ c ≤ 2000000) (hd : -2000000 ≤ d ∧ d ≤ 2000000) : Calls Try.prog 52 #[Hv a b c d n] w fun e w' => e = .returned (.int .i64 (ln2 c d)) ∧ Ext w w' := by
  obtain ⟨b0, b1⟩ := sqs_bd hc hd
  have PD := Lib.hid (fun w => dot_any c d c d w hc hd hc hd)
  unfold ln2
  obtain ⟨Q, hQ⟩ : ∃ Q, Q = c * c + d * d := ⟨_, rfl⟩
  rw [← hQ] at PD b0 b1 ⊢
  clear hQ
  have PR := Lib.hid (fun w => root_any Q w b0 (by omega))
  obtain ⟨R, hR⟩ : ∃ R, R = rt Q := ⟨_, rfl⟩
  rw [← hR] at PR ⊢
  clear hR
  go_enter Try.func52, Try.ntmps52
  go_wp2_with fail
  refine (PD.out _).mono ?_
  rintro e w1 ⟨rfl, hx1⟩
  go_wp2_with fail
  refine (PR.out _).mono ?_
  rintro e w2 ⟨rfl, rfl⟩
  go_wp2
  go_ret
  exact ⟨rfl, (by repeat (first | exact Ext.refl _ | assumption | apply Ext.alloc | apply Ext.drew | (refine Ext.trans ?_ (by assumption)) | (refine Ext.setNew ?_ (by simp <;> omega) _)))⟩

set_option maxHeartbeats 2000000 in
theorem sternS_any (a b c d n : Int) (w : World) (h : hlB a b c d n = true) : Calls Try.prog 54 #[Hv a b c d n] w fun e w' => e = .returned (Pt (stX a c d n) (stY b c d n)) ∧ Ext w w' := by
  obtain ⟨k1, k2⟩ := st_bd h
  obtain ⟨⟨ha, hb⟩, ⟨hc, hd, hn⟩, n1, n2⟩ := hlB_yes h
  unfold Co at ha hb
  have PN := Lib.hid (fun w => normS_any a b c d n w hc hd)
  obtain ⟨l1, l2⟩ := ln2_pos hc hd hn
  obtain ⟨a1, a2⟩ := mul_bd 2000000 1000 hc (y := n) ⟨by omega, by omega⟩
  obtain ⟨b1, b2⟩ := mul_bd 2000000 1000 hd (y := n) ⟨by omega, by omega⟩
  simp only [Int.reduceMul, Int.reduceNeg] at a1 a2 b1 b2
  unfold stX stY
  obtain ⟨L, hL⟩ : ∃ L, L = ln2 c d := ⟨_, rfl⟩
  rw [← hL] at PN k1 k2 l1 ⊢
  have PE := Lib.hid (fun w => floor_any (c * n) L w l1 (by omega) (by omega))
  have PF := Lib.hid (fun w => floor_any (d * n) L w l1 (by omega) (by omega))
  have T3 : IntKind.i64.wrap (c * n) = c * n := IntWalk.i64_in _ (by omega)
  have T4 : IntKind.i64.wrap (d * n) = d * n := IntWalk.i64_in _ (by omega)
  obtain ⟨E, hE⟩ : ∃ E, E = flo (c * n) L := ⟨_, rfl⟩
  obtain ⟨F, hF⟩ : ∃ F, F = flo (d * n) L := ⟨_, rfl⟩
  rw [← hE] at PE k1 ⊢
  rw [← hF] at PF k2 ⊢
  have T1 : IntKind.i64.wrap (a - E) = a - E := IntWalk.i64_in _ (by omega)
  have T2 : IntKind.i64.wrap (b - F) = b - F := IntWalk.i64_in _ (by omega)
  clear hE hF hn hL l2 a1 a2 b1 b2
  obtain ⟨W0, hW0⟩ : ∃ W0, W0 = w.alloc (.cells #[.int .i64 a, .int .i64 b, .int .i64 c, .int .i64 d, .int .i64 n] 27) := ⟨_, rfl⟩
  have hX : Ext w W0 := hW0 ▸ ((Ext.refl w).alloc _)
  have hs0 : W0.heap.size = w.heap.size + 1 := by rw [hW0]; simp
  have e00 : ∀ w', (Res W0 (w.heap.size + 1) 2) w' → w'.cell? ⟨w.heap.size, 0, none⟩ = some (.int .i64 a) := fun w' h => h.1.cellOf (by rw [hW0]; exact boxed 0 rfl (by simp))
  have e01 : ∀ w', (Res W0 (w.heap.size + 1) 2) w' → w'.cell? ⟨w.heap.size, 1, none⟩ = some (.int .i64 b) := fun w' h => h.1.cellOf (by rw [hW0]; exact boxed 1 rfl (by simp))
  have e02 : ∀ w', (Res W0 (w.heap.size + 1) 2) w' → w'.cell? ⟨w.heap.size, 2, none⟩ = some (.int .i64 c) := fun w' h => h.1.cellOf (by rw [hW0]; exact boxed 2 rfl (by simp))
  have e03 : ∀ w', (Res W0 (w.heap.size + 1) 2) w' → w'.cell? ⟨w.heap.size, 3, none⟩ = some (.int .i64 d) := fun w' h => h.1.cellOf (by rw [hW0]; exact boxed 3 rfl (by simp))
  have e04 : ∀ w', (Res W0 (w.heap.size + 1) 2) w' → w'.cell? ⟨w.heap.size, 4, none⟩ = some (.int .i64 n) := fun w' h => h.1.cellOf (by rw [hW0]; exact boxed 4 rfl (by simp))
  have S0 := Lib.hid (Res.new2 (W := W0) (x := .int .i64 0) (y := .int .i64 0) (t := 25))
  rw [hs0] at S0
  go_enter Try.func54, Try.ntmps54
  go_wp2_with fail
  rw [← hW0]
  have S1 := S0.out
  clear hW0 hs0 S0
  generalize W0.alloc (.cells #[.int .i64 0, .int .i64 0] 25) = V at *
  refine (PN.out _).mono ?_
  rintro e w1 ⟨rfl, hy⟩
  have S2 := S1.ext hy
  clear hy S1
  go_wp2_with fail
  refine wp_region_held_drew (S := (Res W0 (w.heap.size + 1) 2)) (by kernel_rfl) (by (try dsimp only); first | go_keep | exact (Ext.refl _).drew | exact Res.new2.drew | exact Res.new4.drew | exact ResB.drew (by assumption) | exact ResC.drew (by assumption) | assumption | exact Ext.drew (by assumption) | exact Res.drew (by assumption)) (fun hHeld => ?_)
  generalize w1.drew = wd at hHeld ⊢
  refine Ord.K 0 6 ?_
  refine Ord.K 1 7 ?_
  refine Ord.K 2 8 ?_
  refine Ord.K 3 9 ?_
  refine Ord.K 4 10 ?_
  refine Ord.K 5 11 ?_
  refine Ord.K 6 12 ?_
  refine Ord.K 7 13 ?_
  refine Ord.K 8 14 ?_
  refine Ord.K 9 15 ?_
  refine Ord.K 12 18 ?_
  refine Ord.K 13 19 ?_
  refine Ord.K 14 20 ?_
  refine Ord.K 15 21 ?_
  refine Ord.K 16 22 ?_
  refine Ord.K 17 23 ?_
  refine Ord.K 18 24 ?_
  refine Ord.K 19 25 ?_
  refine Ord.K 20 26 ?_
  refine Ord.K 21 27 ?_
  (refine wpAnyH_ready (rs := [10]) (by kernel_rfl) (by simp) ?_; refine AllReadyH.cons rfl (fun K hK => ?_) AllReadyH.nil; go_simp; (first | (go_at_call 50; with_reducible refine (PE.out _).mono ?_; rintro e w2 ⟨rfl, rfl⟩) | (go_at_call 50; with_reducible refine (PF.out _).mono ?_; rintro e w2 ⟨rfl, rfl⟩)); go_wp2_with fail; (refine hK.out _ _ (by first | assumption | exact Ext.trans (by assumption) hy | exact Res.ext (by assumption) hy | exact ResB.ext (by assumption) hy | exact ResC.ext (by assumption) hy | (go_split_ands; (repeat' apply And.intro) <;> exact Ext.cellOf hy (by assumption))) (fun hHeld => ?_)); clear hK K; (try simp only [Act.put, Ord.a, Ord.b, Ord.c]))
  refine Ord.K 11 17 ?_
  (refine wpAnyH_ready (rs := [22]) (by kernel_rfl) (by simp) ?_; refine AllReadyH.cons rfl (fun K hK => ?_) AllReadyH.nil; go_simp; (first | (go_at_call 50; with_reducible refine (PE.out _).mono ?_; rintro e w2 ⟨rfl, rfl⟩) | (go_at_call 50; with_reducible refine (PF.out _).mono ?_; rintro e w2 ⟨rfl, rfl⟩)); go_wp2_with fail; (refine hK.out _ _ (by first | assumption | exact Ext.trans (by assumption) hy | exact Res.ext (by assumption) hy | exact ResB.ext (by assumption) hy | exact ResC.ext (by assumption) hy | (go_split_ands; (repeat' apply And.intro) <;> exact Ext.cellOf hy (by assumption))) (fun hHeld => ?_)); clear hK K; (try simp only [Act.put, Ord.a, Ord.b, Ord.c]))
  refine Ord.K 23 29 ?_
  refine Ord.K 24 30 ?_
  (((first | refine Exists.elim (Res.two hHeld) (fun rx rh => ?_) | refine Exists.elim (ResC.two hHeld) (fun rx rh => ?_) | refine Exists.elim (Res.two hHeld.1) (fun rx rh => ?_)); refine Exists.elim rh (fun ry rb => ?_); have r0 := rb.two.1.1; have r1 := rb.two.1.2; have r2 := rb.two.2.1; have r3 := rb.two.2.2; clear rh); refine wpAnyH_ready (rs := [25]) (by kernel_rfl) (by simp) ?_; refine AllReadyH.cons rfl (fun K hK => ?_) AllReadyH.nil; go_simp; (refine hK.out _ _ (by with_reducible exact Res.set (Res.set hHeld _ _) _ _) (fun hHeld => ?_)); clear hK K; (try simp only [Act.put, Ord.a, Ord.b, Ord.c]))
  refine wpAnyH_done (by kernel_rfl) ?_ _
  go_wp2
  obtain ⟨⟨g0, g1⟩, _⟩ := (rb.set2 (u := .int .i64 (a - E)) (v := .int .i64 (b - F))).two
  exact bodyPost_ret (v := Pt (a - E) (b - F)) (by simp [results, Try.results54, go_sem, g0, g1]) rfl ⟨rfl, hX.trans hHeld.1⟩

set_option maxHeartbeats 1000000 in
theorem alongS_any (a b c d n p q u v m : Int) (w : World) (h : hlB a b c d n = true) (hp : Co p) (hq : Co q) : Calls Try.prog 51 #[Hv a b c d n, Hv p q u v m] w fun e w' => e = .returned (.int .i64 (alH a b c d p q)) ∧ Ext w w' := by
  obtain ⟨⟨ha, hb⟩, ⟨hc, hd, hn⟩, n1, n2⟩ := hlB_yes h
  unfold Co at ha hb hp hq
  have PV := Lib.hid (fun w => minus_any p q a b w hp hq ha hb)
  have PD := Lib.hid (fun w => show Calls Try.prog 92 #[Pt (p - a) (q - b), Pt c d] w (fun e w' => e = .returned (.int .i64 (alH a b c d p q)) ∧ Ext w w') from dot_any (p - a) (q - b) c d w (by omega) (by omega) hc hd)
  clear hn
  obtain ⟨W0, hW0⟩ : ∃ W0, W0 = (w.alloc (.cells #[.int .i64 a, .int .i64 b, .int .i64 c, .int .i64 d, .int .i64 n] 27)).alloc (.cells #[.int .i64 p, .int .i64 q, .int .i64 u, .int .i64 v, .int .i64 m] 27) := ⟨_, rfl⟩
  have hX : Ext w W0 := hW0 ▸ (((Ext.refl w).alloc _).alloc _)
  have hs0 : W0.heap.size = w.heap.size + 1 + 1 := by rw [hW0]; simp
  have e00 : ∀ w', (Ext W0) w' → w'.cell? ⟨w.heap.size, 0, none⟩ = some (.int .i64 a) := fun w' h => h.cellOf (by rw [hW0]; exact ((Ext.refl _).alloc _).cellOf (boxed 0 rfl (by simp)))
  have e01 : ∀ w', (Ext W0) w' → w'.cell? ⟨w.heap.size, 1, none⟩ = some (.int .i64 b) := fun w' h => h.cellOf (by rw [hW0]; exact ((Ext.refl _).alloc _).cellOf (boxed 1 rfl (by simp)))
  have e02 : ∀ w', (Ext W0) w' → w'.cell? ⟨w.heap.size, 2, none⟩ = some (.int .i64 c) := fun w' h => h.cellOf (by rw [hW0]; exact ((Ext.refl _).alloc _).cellOf (boxed 2 rfl (by simp)))
  have e03 : ∀ w', (Ext W0) w' → w'.cell? ⟨w.heap.size, 3, none⟩ = some (.int .i64 d) := fun w' h => h.cellOf (by rw [hW0]; exact ((Ext.refl _).alloc _).cellOf (boxed 3 rfl (by simp)))
  have e04 : ∀ w', (Ext W0) w' → w'.cell? ⟨w.heap.size, 4, none⟩ = some (.int .i64 n) := fun w' h => h.cellOf (by rw [hW0]; exact ((Ext.refl _).alloc _).cellOf (boxed 4 rfl (by simp)))
  have e10 : ∀ w', (Ext W0) w' → w'.cell? ⟨w.heap.size + 1, 0, none⟩ = some (.int .i64 p) := fun w' h => h.cellOf (by rw [hW0]; exact boxed 0 rfl (by simp))
  have e11 : ∀ w', (Ext W0) w' → w'.cell? ⟨w.heap.size + 1, 1, none⟩ = some (.int .i64 q) := fun w' h => h.cellOf (by rw [hW0]; exact boxed 1 rfl (by simp))
  have e12 : ∀ w', (Ext W0) w' → w'.cell? ⟨w.heap.size + 1, 2, none⟩ = some (.int .i64 u) := fun w' h => h.cellOf (by rw [hW0]; exact boxed 2 rfl (by simp))
  have e13 : ∀ w', (Ext W0) w' → w'.cell? ⟨w.heap.size + 1, 3, none⟩ = some (.int .i64 v) := fun w' h => h.cellOf (by rw [hW0]; exact boxed 3 rfl (by simp))
  have e14 : ∀ w', (Ext W0) w' → w'.cell? ⟨w.heap.size + 1, 4, none⟩ = some (.int .i64 m) := fun w' h => h.cellOf (by rw [hW0]; exact boxed 4 rfl (by simp))
  go_enter Try.func51, Try.ntmps51
  go_wp2_with fail
  rw [← hW0]
  clear hW0
  have hr := Ext.refl W0
  refine wp_region_held_drew (S := (fun w' => Ext W0 w')) (by kernel_rfl) (by (try dsimp only); first | go_keep | exact (Ext.refl _).drew | exact Res.new2.drew | exact Res.new4.drew | exact ResB.drew (by assumption) | exact ResC.drew (by assumption) | assumption | exact Ext.drew (by assumption) | exact Res.drew (by assumption)) (fun hHeld => ?_)
  refine Ord.K 0 5 ?_
  refine Ord.K 1 6 ?_
  refine Ord.K 2 7 ?_
  refine Ord.K 3 8 ?_
  refine Ord.K 5 10 ?_
  refine Ord.K 6 11 ?_
  (refine wpAnyH_ready (rs := [4]) (by kernel_rfl) (by simp) ?_; refine AllReadyH.cons rfl (fun K hK => ?_) AllReadyH.nil; go_simp; (first | (go_at_call 93; refine (PV.out _).mono ?_; rintro e w4 ⟨rfl, hy⟩) | (go_at_call 92; refine (PD.out _).mono ?_; rintro e w4 ⟨rfl, hy⟩)); go_wp2_with fail; (refine hK.out _ _ (by first | assumption | exact Ext.trans (by assumption) hy | exact Res.ext (by assumption) hy | exact ResB.ext (by assumption) hy | exact ResC.ext (by assumption) hy | (go_split_ands; (repeat' apply And.intro) <;> exact Ext.cellOf hy (by assumption))) (fun hHeld => ?_)); clear hK K; (try simp only [Act.put, Ord.a, Ord.b, Ord.c]))
  (refine wpAnyH_ready (rs := [7]) (by kernel_rfl) (by simp) ?_; refine AllReadyH.cons rfl (fun K hK => ?_) AllReadyH.nil; go_simp; (first | (go_at_call 93; refine (PV.out _).mono ?_; rintro e w4 ⟨rfl, hy⟩) | (go_at_call 92; refine (PD.out _).mono ?_; rintro e w4 ⟨rfl, hy⟩)); go_wp2_with fail; (refine hK.out _ _ (by first | assumption | exact Ext.trans (by assumption) hy | exact Res.ext (by assumption) hy | exact ResB.ext (by assumption) hy | exact ResC.ext (by assumption) hy | (go_split_ands; (repeat' apply And.intro) <;> exact Ext.cellOf hy (by assumption))) (fun hHeld => ?_)); clear hK K; (try simp only [Act.put, Ord.a, Ord.b, Ord.c]))
  refine Ord.K 8 4 ?_
  refine wpAnyH_done (by kernel_rfl) ?_ _
  go_wp2
  go_ret
  exact ⟨rfl, hX.trans (by assumption)⟩

set_option maxHeartbeats 1000000 in
theorem clearS_any (a b c d n p q u v m : Int) (w : World) (h : hlB a b c d n = true) (hp : Co p) (hq : Co q) : Calls Try.prog 68 #[Hv a b c d n, Hv p q u v m] w fun e w' => e = .returned (.bool (caB a b c d n p q)) ∧ Ext w w' := by
  obtain ⟨A1, A2⟩ := al_bd h hp hq
  have PA := Lib.hid (fun w => alongS_any a b c d n p q u v m w h hp hq)
  obtain ⟨⟨ha, hb⟩, ⟨hc, hd, hn⟩, n1, n2⟩ := hlB_yes h
  have PQ := Lib.hid (fun w => dot_any c d c d w hc hd hc hd)
  obtain ⟨s0, s1⟩ := sqs_bd hc hd
  have PR := Lib.hid (fun w => Wid.rootOfS_any n (c * c + d * d) w (by omega) (by omega) s0 s1)
  have HN := Lib.hid (fun g => ca_no (a := a) (b := b) (c := c) (d := d) (n := n) (p := p) (q := q) g)
  have HY := Lib.hid (fun g => ca_yes (a := a) (b := b) (c := c) (d := d) (n := n) (p := p) (q := q) g)
  obtain ⟨K, hK⟩ : ∃ K, K = caB a b c d n p q := ⟨_, rfl⟩
  obtain ⟨L, hL⟩ : ∃ L, L = alH a b c d p q := ⟨_, rfl⟩
  obtain ⟨Q, hQ⟩ : ∃ Q, Q = c * c + d * d := ⟨_, rfl⟩
  rw [← hK, ← hL] at HN
  rw [← hK, ← hL, ← hQ] at HY
  rw [← hK]
  rw [← hL] at PA A1 A2
  rw [← hQ] at PQ PR s0 s1
  obtain ⟨Z, hZ⟩ : ∃ Z, Z = rt (n * n * Q) := ⟨_, rfl⟩
  rw [← hZ] at PR HY
  clear hK hL hQ hn h hp hq ha hb hc hd hZ
  have T0 : IntKind.i64.wrap (-L) = -L := IntWalk.i64_in _ (by omega)
  obtain ⟨W0, hW0⟩ : ∃ W0, W0 = (w.alloc (.cells #[.int .i64 a, .int .i64 b, .int .i64 c, .int .i64 d, .int .i64 n] 27)).alloc (.cells #[.int .i64 p, .int .i64 q, .int .i64 u, .int .i64 v, .int .i64 m] 27) := ⟨_, rfl⟩
  have hX : Ext w W0 := hW0 ▸ (((Ext.refl w).alloc _).alloc _)
  have hs0 : W0.heap.size = w.heap.size + 1 + 1 := by rw [hW0]; simp
  have e00 : ∀ w', (Ext W0) w' → w'.cell? ⟨w.heap.size, 0, none⟩ = some (.int .i64 a) := fun w' h => h.cellOf (by rw [hW0]; exact ((Ext.refl _).alloc _).cellOf (boxed 0 rfl (by simp)))
  have e01 : ∀ w', (Ext W0) w' → w'.cell? ⟨w.heap.size, 1, none⟩ = some (.int .i64 b) := fun w' h => h.cellOf (by rw [hW0]; exact ((Ext.refl _).alloc _).cellOf (boxed 1 rfl (by simp)))
  have e02 : ∀ w', (Ext W0) w' → w'.cell? ⟨w.heap.size, 2, none⟩ = some (.int .i64 c) := fun w' h => h.cellOf (by rw [hW0]; exact ((Ext.refl _).alloc _).cellOf (boxed 2 rfl (by simp)))
  have e03 : ∀ w', (Ext W0) w' → w'.cell? ⟨w.heap.size, 3, none⟩ = some (.int .i64 d) := fun w' h => h.cellOf (by rw [hW0]; exact ((Ext.refl _).alloc _).cellOf (boxed 3 rfl (by simp)))
  have e04 : ∀ w', (Ext W0) w' → w'.cell? ⟨w.heap.size, 4, none⟩ = some (.int .i64 n) := fun w' h => h.cellOf (by rw [hW0]; exact ((Ext.refl _).alloc _).cellOf (boxed 4 rfl (by simp)))
  have e10 : ∀ w', (Ext W0) w' → w'.cell? ⟨w.heap.size + 1, 0, none⟩ = some (.int .i64 p) := fun w' h => h.cellOf (by rw [hW0]; exact boxed 0 rfl (by simp))
  have e11 : ∀ w', (Ext W0) w' → w'.cell? ⟨w.heap.size + 1, 1, none⟩ = some (.int .i64 q) := fun w' h => h.cellOf (by rw [hW0]; exact boxed 1 rfl (by simp))
  have e12 : ∀ w', (Ext W0) w' → w'.cell? ⟨w.heap.size + 1, 2, none⟩ = some (.int .i64 u) := fun w' h => h.cellOf (by rw [hW0]; exact boxed 2 rfl (by simp))
  have e13 : ∀ w', (Ext W0) w' → w'.cell? ⟨w.heap.size + 1, 3, none⟩ = some (.int .i64 v) := fun w' h => h.cellOf (by rw [hW0]; exact boxed 3 rfl (by simp))
  have e14 : ∀ w', (Ext W0) w' → w'.cell? ⟨w.heap.size + 1, 4, none⟩ = some (.int .i64 m) := fun w' h => h.cellOf (by rw [hW0]; exact boxed 4 rfl (by simp))
  go_enter Try.func68, Try.ntmps68
  go_wp2_with fail
  rw [← hW0]
  clear hW0
  refine (PA.out _).mono ?_
  rintro e w1 ⟨rfl, hz⟩
  by_cases hl : L < 0
  · have H := Lib.hid (HY.out hl)
    clear HY HN A1 A2 s0 s1
    go_wp2_with fail
    refine wp_region_held_drew (S := (fun w' => Ext W0 w')) (by kernel_rfl) (by (try dsimp only); first | go_keep | exact (Ext.refl _).drew | exact Res.new2.drew | exact Res.new4.drew | exact ResB.drew (by assumption) | exact ResC.drew (by assumption) | assumption | exact Ext.drew (by assumption) | exact Res.drew (by assumption)) (fun hHeld => ?_)
    refine Ord.K 0 9 ?_
    refine Ord.K 1 10 ?_
    refine Ord.K 2 11 ?_
    (first | (refine Ord.s 3 12 ?_ ?_; rfl; (try simp only [Act.put, Ord.a, Ord.b, Ord.c])) | refine Ord.K 3 12 ?_)
    (first | (refine Ord.s 4 13 ?_ ?_; rfl; (try simp only [Act.put, Ord.a, Ord.b, Ord.c])) | refine Ord.K 4 13 ?_)
    (first | (refine Ord.s 5 14 ?_ ?_; rfl; (try simp only [Act.put, Ord.a, Ord.b, Ord.c])) | refine Ord.K 5 14 ?_)
    (first | (refine Ord.s 6 15 ?_ ?_; rfl; (try simp only [Act.put, Ord.a, Ord.b, Ord.c])) | refine Ord.K 6 15 ?_)
    (first | (refine Ord.s 7 16 ?_ ?_; rfl; (try simp only [Act.put, Ord.a, Ord.b, Ord.c])) | refine Ord.K 7 16 ?_)
    (first | (refine Ord.s 8 17 ?_ ?_; rfl; (try simp only [Act.put, Ord.a, Ord.b, Ord.c])) | refine Ord.K 8 17 ?_)
    (first | (refine Ord.s 9 18 ?_ ?_; rfl; (try simp only [Act.put, Ord.a, Ord.b, Ord.c])) | refine Ord.K 9 18 ?_)
    (first | (refine Ord.s 10 19 ?_ ?_; rfl; (try simp only [Act.put, Ord.a, Ord.b, Ord.c])) | refine Ord.K 10 19 ?_)
    (first | (refine Ord.s 11 20 ?_ ?_; rfl; (try simp only [Act.put, Ord.a, Ord.b, Ord.c])) | (refine wpAnyH_ready (rs := [11]) (by kernel_rfl) (by simp) ?_; refine AllReadyH.cons rfl (fun K hK => ?_) AllReadyH.nil; go_simp; (first | (go_at_call 92; refine (PQ.out _).mono ?_; rintro e w4 ⟨rfl, hy⟩) | (go_at_call 103; refine (PR.out _).mono ?_; rintro e w4 ⟨rfl, rfl⟩)); go_wp2_with fail; (refine hK.out _ _ (by first | assumption | exact Ext.trans (by assumption) hy | exact Res.ext (by assumption) hy | exact ResB.ext (by assumption) hy | exact ResC.ext (by assumption) hy | (go_split_ands; (repeat' apply And.intro) <;> exact Ext.cellOf hy (by assumption))) (fun hHeld => ?_)); clear hK K; (try simp only [Act.put, Ord.a, Ord.b, Ord.c])))
    (first | (refine Ord.s 12 21 ?_ ?_; rfl; (try simp only [Act.put, Ord.a, Ord.b, Ord.c])) | (refine wpAnyH_ready (rs := [12]) (by kernel_rfl) (by simp) ?_; refine AllReadyH.cons rfl (fun K hK => ?_) AllReadyH.nil; go_simp; (first | (go_at_call 92; refine (PQ.out _).mono ?_; rintro e w4 ⟨rfl, hy⟩) | (go_at_call 103; refine (PR.out _).mono ?_; rintro e w4 ⟨rfl, rfl⟩)); go_wp2_with fail; (refine hK.out _ _ (by first | assumption | exact Ext.trans (by assumption) hy | exact Res.ext (by assumption) hy | exact ResB.ext (by assumption) hy | exact ResC.ext (by assumption) hy | (go_split_ands; (repeat' apply And.intro) <;> exact Ext.cellOf hy (by assumption))) (fun hHeld => ?_)); clear hK K; (try simp only [Act.put, Ord.a, Ord.b, Ord.c])))
    (first | (refine Ord.s 13 22 ?_ ?_; rfl; (try simp only [Act.put, Ord.a, Ord.b, Ord.c])) | refine Ord.K 13 22 ?_)
    refine Ord.K 14 23 ?_
    refine Ord.K 15 4 ?_
    refine wpAnyH_done (by kernel_rfl) ?_ _
    go_wp2
    go_ret
    exact ⟨ret_bool H.out, hX.trans (by assumption)⟩
  · have H := Lib.hid (HN.out (by omega))
    have G2 : decide (L < 0) = false := decide_eq_false hl
    clear hl HY HN A1 A2 s0 s1
    go_wp2_with fail
    refine wp_region_held_drew (S := (fun w' => Ext W0 w')) (by kernel_rfl) (by (try dsimp only); first | go_keep | exact (Ext.refl _).drew | exact Res.new2.drew | exact Res.new4.drew | exact ResB.drew (by assumption) | exact ResC.drew (by assumption) | assumption | exact Ext.drew (by assumption) | exact Res.drew (by assumption)) (fun hHeld => ?_)
    refine Ord.K 0 9 ?_
    refine Ord.K 1 10 ?_
    refine Ord.K 2 11 ?_
    (first | (refine Ord.s 3 12 ?_ ?_; rfl; (try simp only [Act.put, Ord.a, Ord.b, Ord.c])) | refine Ord.K 3 12 ?_)
    (first | (refine Ord.s 4 13 ?_ ?_; rfl; (try simp only [Act.put, Ord.a, Ord.b, Ord.c])) | refine Ord.K 4 13 ?_)
    (first | (refine Ord.s 5 14 ?_ ?_; rfl; (try simp only [Act.put, Ord.a, Ord.b, Ord.c])) | refine Ord.K 5 14 ?_)
    (first | (refine Ord.s 6 15 ?_ ?_; rfl; (try simp only [Act.put, Ord.a, Ord.b, Ord.c])) | refine Ord.K 6 15 ?_)
    (first | (refine Ord.s 7 16 ?_ ?_; rfl; (try simp only [Act.put, Ord.a, Ord.b, Ord.c])) | refine Ord.K 7 16 ?_)
    (first | (refine Ord.s 8 17 ?_ ?_; rfl; (try simp only [Act.put, Ord.a, Ord.b, Ord.c])) | refine Ord.K 8 17 ?_)
    (first | (refine Ord.s 9 18 ?_ ?_; rfl; (try simp only [Act.put, Ord.a, Ord.b, Ord.c])) | refine Ord.K 9 18 ?_)
    (first | (refine Ord.s 10 19 ?_ ?_; rfl; (try simp only [Act.put, Ord.a, Ord.b, Ord.c])) | refine Ord.K 10 19 ?_)
    (first | (refine Ord.s 11 20 ?_ ?_; rfl; (try simp only [Act.put, Ord.a, Ord.b, Ord.c])) | (refine wpAnyH_ready (rs := [11]) (by kernel_rfl) (by simp) ?_; refine AllReadyH.cons rfl (fun K hK => ?_) AllReadyH.nil; go_simp; (first | (go_at_call 92; refine (PQ.out _).mono ?_; rintro e w4 ⟨rfl, hy⟩)); go_wp2_with fail; (refine hK.out _ _ (by first | assumption | exact Ext.trans (by assumption) hy | exact Res.ext (by assumption) hy | exact ResB.ext (by assumption) hy | exact ResC.ext (by assumption) hy | (go_split_ands; (repeat' apply And.intro) <;> exact Ext.cellOf hy (by assumption))) (fun hHeld => ?_)); clear hK K; (try simp only [Act.put, Ord.a, Ord.b, Ord.c])))
    (first | (refine Ord.s 12 21 ?_ ?_; rfl; (try simp only [Act.put, Ord.a, Ord.b, Ord.c])) | (refine wpAnyH_ready (rs := [12]) (by kernel_rfl) (by simp) ?_; refine AllReadyH.cons rfl (fun K hK => ?_) AllReadyH.nil; go_simp; (first | (go_at_call 92; refine (PQ.out _).mono ?_; rintro e w4 ⟨rfl, hy⟩)); go_wp2_with fail; (refine hK.out _ _ (by first | assumption | exact Ext.trans (by assumption) hy | exact Res.ext (by assumption) hy | exact ResB.ext (by assumption) hy | exact ResC.ext (by assumption) hy | (go_split_ands; (repeat' apply And.intro) <;> exact Ext.cellOf hy (by assumption))) (fun hHeld => ?_)); clear hK K; (try simp only [Act.put, Ord.a, Ord.b, Ord.c])))
    (first | (refine Ord.s 13 22 ?_ ?_; rfl; (try simp only [Act.put, Ord.a, Ord.b, Ord.c])) | refine Ord.K 13 22 ?_)
    refine Ord.K 14 23 ?_
    refine Ord.K 15 4 ?_
    refine wpAnyH_done (by kernel_rfl) ?_ _
    go_wp2
    go_ret
    exact ⟨ret_bool H.out, hX.trans (by assumption)⟩

/-- The relation of two hulls: is the second clear astern of the first, is the first clear astern of the second? -/
def ovN (x y : Bool) : Int := (if x = true then 1 else 0) + (if y = true then 2 else 0)

set_option maxHeartbeats 1000000 in
theorem overlapS_any (a b c d n p q u v m : Int) (w : World) (h : hlB a b c d n = true) (g : hlB p q u v m = true) : Calls Try.prog 45 #[Hv a b c d n, Hv p q u v m] w fun e w' => e = .returned (.int .i64 (ovN (caB a b c d n p q) (caB p q u v m a b))) ∧ Ext w w' := by
  have PA := Lib.hid (fun w => clearS_any a b c d n p q u v m w h (hlB_yes g).1.1 (hlB_yes g).1.2)
  have PB := Lib.hid (fun w => clearS_any p q u v m a b c d n w g (hlB_yes h).1.1 (hlB_yes h).1.2)
  generalize caB a b c d n p q = X at *
  generalize caB p q u v m a b = Y at *
  clear h g
  obtain ⟨W0, hW0⟩ : ∃ W0, W0 = (w.alloc (.cells #[.int .i64 a, .int .i64 b, .int .i64 c, .int .i64 d, .int .i64 n] 27)).alloc (.cells #[.int .i64 p, .int .i64 q, .int .i64 u, .int .i64 v, .int .i64 m] 27) := ⟨_, rfl⟩
  have hX : Ext w W0 := hW0 ▸ (((Ext.refl w).alloc _).alloc _)
  have hs0 : W0.heap.size = w.heap.size + 1 + 1 := by rw [hW0]; simp
  have e00 : ∀ w', (Ext W0) w' → w'.cell? ⟨w.heap.size, 0, none⟩ = some (.int .i64 a) := fun w' h => h.cellOf (by rw [hW0]; exact ((Ext.refl _).alloc _).cellOf (boxed 0 rfl (by simp)))
  have e01 : ∀ w', (Ext W0) w' → w'.cell? ⟨w.heap.size, 1, none⟩ = some (.int .i64 b) := fun w' h => h.cellOf (by rw [hW0]; exact ((Ext.refl _).alloc _).cellOf (boxed 1 rfl (by simp)))
  have e02 : ∀ w', (Ext W0) w' → w'.cell? ⟨w.heap.size, 2, none⟩ = some (.int .i64 c) := fun w' h => h.cellOf (by rw [hW0]; exact ((Ext.refl _).alloc _).cellOf (boxed 2 rfl (by simp)))
  have e03 : ∀ w', (Ext W0) w' → w'.cell? ⟨w.heap.size, 3, none⟩ = some (.int .i64 d) := fun w' h => h.cellOf (by rw [hW0]; exact ((Ext.refl _).alloc _).cellOf (boxed 3 rfl (by simp)))
  have e04 : ∀ w', (Ext W0) w' → w'.cell? ⟨w.heap.size, 4, none⟩ = some (.int .i64 n) := fun w' h => h.cellOf (by rw [hW0]; exact ((Ext.refl _).alloc _).cellOf (boxed 4 rfl (by simp)))
  have e10 : ∀ w', (Ext W0) w' → w'.cell? ⟨w.heap.size + 1, 0, none⟩ = some (.int .i64 p) := fun w' h => h.cellOf (by rw [hW0]; exact boxed 0 rfl (by simp))
  have e11 : ∀ w', (Ext W0) w' → w'.cell? ⟨w.heap.size + 1, 1, none⟩ = some (.int .i64 q) := fun w' h => h.cellOf (by rw [hW0]; exact boxed 1 rfl (by simp))
  have e12 : ∀ w', (Ext W0) w' → w'.cell? ⟨w.heap.size + 1, 2, none⟩ = some (.int .i64 u) := fun w' h => h.cellOf (by rw [hW0]; exact boxed 2 rfl (by simp))
  have e13 : ∀ w', (Ext W0) w' → w'.cell? ⟨w.heap.size + 1, 3, none⟩ = some (.int .i64 v) := fun w' h => h.cellOf (by rw [hW0]; exact boxed 3 rfl (by simp))
  have e14 : ∀ w', (Ext W0) w' → w'.cell? ⟨w.heap.size + 1, 4, none⟩ = some (.int .i64 m) := fun w' h => h.cellOf (by rw [hW0]; exact boxed 4 rfl (by simp))
  go_enter Try.func45, Try.ntmps45
  go_wp2_with fail
  rw [← hW0]
  clear hW0
  refine (PA.out _).mono ?_
  rintro e w1 ⟨rfl, hz⟩
  have g00 := e00 w1 hz; have g01 := e01 w1 hz; have g02 := e02 w1 hz; have g03 := e03 w1 hz; have g04 := e04 w1 hz
  have g10 := e10 w1 hz; have g11 := e11 w1 hz; have g12 := e12 w1 hz; have g13 := e13 w1 hz; have g14 := e14 w1 hz
  cases X <;> (
    go_wp2_with fail
    refine (PB.out _).mono ?_
    rintro e w2 ⟨rfl, hy⟩
    cases Y <;> (
      go_wp2
      go_ret
      exact ⟨rfl, hX.trans (hz.trans hy)⟩))

end Go.Proofs.Ytdcnfeimfpafiaa.Hul
