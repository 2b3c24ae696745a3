import Derived.Test.YtmlojndkpnhalaaGreatWnd3
import Derived.Test.YtmlojndkpnhalaaGreatMnv
import Derived.Test.YtmlojndkpnhalaaGreatOpb
namespace Go.Proofs.YtmlojndkpnhalaaGreat.Wnd
open Go.ChangeShapes Go.WideShapes Go.ChangeAt Go.RowKit
open Go.Proofs.YtmlojndkpnhalaaGreat.Num Go.Proofs.YtmlojndkpnhalaaGreat.Kit Go.Proofs.YtmlojndkpnhalaaGreat.Pts Go.Proofs.YtmlojndkpnhalaaGreat.Seg Go.Proofs.YtmlojndkpnhalaaGreat.Gcd Go.Proofs.YtmlojndkpnhalaaGreat.Rt Go.Proofs.YtmlojndkpnhalaaGreat.Root
open Go.Proofs.YtmlojndkpnhalaaGreat.Lth (ln2 ln2_pos length_any sqs_bd)
open Go.Proofs.YtmlojndkpnhalaaGreat.Mnv (M2)
open Go.Proofs.YtmlojndkpnhalaaGreat.Trk (F3 Fxs Tr trB fx hdX hdY)
set_option linter.unusedVariables false
set_option linter.unusedSimpArgs false
def lwN (x y u v : Int) : Int := flo (u * x + v * y) (ln2 u v)
theorem flo_bd {a b : Int} (hb : 1 ≤ b) (M : Int) (h1 : -M ≤ a) (h2 : a ≤ M) : -M - 1 ≤ flo a b ∧ flo a b ≤ M := by
  have := tdiv_bd hb M h1 h2
  unfold flo
  split <;> omega
theorem lw_bd {x y u v : Int} (hx : -1000 ≤ x ∧ x ≤ 1000) (hy : -1000 ≤ y ∧ y ≤ 1000) (hu : -2000000 ≤ u ∧ u ≤ 2000000) (hv : -2000000 ≤ v ∧ v ≤ 2000000) (hh : ¬ (u = 0 ∧ v = 0)) : -4000000001 ≤ lwN x y u v ∧ lwN x y u v ≤ 4000000000 := by
  have h := (prod_bd hx hy hu hv).1
  have g := ln2_pos hu hv hh
  have := flo_bd g.1 4000000000 h.1 h.2
  unfold lwN; omega
def knN (x y p q u v : Int) : Int := if lwN x y p q + lwN x y u v < 0 then 1 else 2
set_option maxHeartbeats 2000000 in
theorem leeway_any (x y u v : Int) (w : World) (hx : -1000 ≤ x ∧ x ≤ 1000) (hy : -1000 ≤ y ∧ y ≤ 1000) (hu : -2000000 ≤ u ∧ u ≤ 2000000) (hv : -2000000 ≤ v ∧ v ≤ 2000000) (hh : ¬ (u = 0 ∧ v = 0)) :
    Calls Tryz.prog 309 #[Pt x y, Pt u v] w fun e w' => e = .returned (.int .i64 (lwN x y u v)) ∧ Ext w w' := by
  have PA := Lib.hid (fun w => along_any x y u v w hx hy hu hv)
  have PL := Lib.hid (fun w => length_any u v w hu hv)
  obtain ⟨b1, b2⟩ := (prod_bd hx hy hu hv).1
  obtain ⟨l1, l2⟩ := ln2_pos hu hv hh
  have HQ := Lib.hid (show lwN x y u v = flo (u * x + v * y) (ln2 u v) from rfl)
  obtain ⟨D, hD⟩ : ∃ D, D = u * x + v * y := ⟨_, rfl⟩
  obtain ⟨L, hL⟩ : ∃ L, L = ln2 u v := ⟨_, rfl⟩
  rw [← hD] at PA b1 b2 HQ
  rw [← hL] at PL l1 l2 HQ
  have PF := Lib.hid (fun w => floorDiv_impl D L w)
  rw [show fdQ D L = flo D L from if_pos ⟨by omega, by omega, by omega, by omega⟩, show fdC D L = 0 from if_pos ⟨by omega, by omega, by omega, by omega⟩] at PF
  clear hD hL hx hy hu hv hh b1 b2 l1 l2
  obtain ⟨W0, hW0⟩ : ∃ W0, W0 = (w.alloc (.cells #[.int .i64 x, .int .i64 y] 54)).alloc (.cells #[.int .i64 u, .int .i64 v] 25) := ⟨_, rfl⟩
  have hX : Ext w W0 := hW0 ▸ (((Ext.refl w).alloc _).alloc _)
  have hs0 : W0.heap.size = w.heap.size + 1 + 1 := by rw [hW0]; simp
  have e00 : ∀ w', (Ext W0) w' → w'.cell? ⟨w.heap.size, 0, none⟩ = some (.int .i64 x) := fun w' h => h.cellOf (by rw [hW0]; exact ((Ext.refl _).alloc _).cellOf (boxed 0 rfl (by simp)))
  have e01 : ∀ w', (Ext W0) w' → w'.cell? ⟨w.heap.size, 1, none⟩ = some (.int .i64 y) := fun w' h => h.cellOf (by rw [hW0]; exact ((Ext.refl _).alloc _).cellOf (boxed 1 rfl (by simp)))
  have e10 : ∀ w', (Ext W0) w' → w'.cell? ⟨w.heap.size + 1, 0, none⟩ = some (.int .i64 u) := fun w' h => h.cellOf (by rw [hW0]; exact boxed 0 rfl (by simp))
  have e11 : ∀ w', (Ext W0) w' → w'.cell? ⟨w.heap.size + 1, 1, none⟩ = some (.int .i64 v) := fun w' h => h.cellOf (by rw [hW0]; exact boxed 1 rfl (by simp))
  have hr := Ext.refl W0
  go_enter Tryz.func309, Tryz.ntmps309
  go_wp2_with fail
  rw [← hW0]
  clear hW0
  refine wp_region_held_drew (S := (fun w' => Ext W0 w')) (by kernel_rfl) (by (try dsimp only); first | go_keep | exact (Ext.refl _).drew | exact Res.new2.drew | exact Res.new4.drew | exact ResB.drew (by assumption) | exact ResC.drew (by assumption) | assumption | exact Ext.drew (by assumption) | exact Res.drew (by assumption)) (fun hHeld => ?_)
  refine Ord.K 0 8 ?_
  refine Ord.K 1 9 ?_
  refine Ord.K 3 11 ?_
  (refine wpAnyH_ready (rs := [2]) (by kernel_rfl) (by simp) ?_; refine AllReadyH.cons rfl (fun K hK => ?_) AllReadyH.nil; go_simp; (first | (go_at_call 311; refine (PA.out _).mono ?_; rintro e w1 ⟨rfl, hy⟩) | (go_at_call 317; refine (PL.out _).mono ?_; rintro e w1 ⟨rfl, hy⟩) | (go_at_call 316; refine (PF.out _).mono ?_; rintro e w1 ⟨rfl, rfl⟩)); go_wp2_with fail; (refine hK.out _ _ (by first | assumption | exact Ext.trans (by assumption) hy | exact Res.ext (by assumption) hy | exact ResB.ext (by assumption) hy | exact ResC.ext (by assumption) hy | (go_split_ands; (repeat' apply And.intro) <;> exact Ext.cellOf hy (by assumption))) (fun hHeld => ?_)); clear hK K; (try simp only [Act.put, Ord.a, Ord.b, Ord.c]))
  (refine wpAnyH_ready (rs := [4]) (by kernel_rfl) (by simp) ?_; refine AllReadyH.cons rfl (fun K hK => ?_) AllReadyH.nil; go_simp; (first | (go_at_call 311; refine (PA.out _).mono ?_; rintro e w1 ⟨rfl, hy⟩) | (go_at_call 317; refine (PL.out _).mono ?_; rintro e w1 ⟨rfl, hy⟩) | (go_at_call 316; refine (PF.out _).mono ?_; rintro e w1 ⟨rfl, rfl⟩)); go_wp2_with fail; (refine hK.out _ _ (by first | assumption | exact Ext.trans (by assumption) hy | exact Res.ext (by assumption) hy | exact ResB.ext (by assumption) hy | exact ResC.ext (by assumption) hy | (go_split_ands; (repeat' apply And.intro) <;> exact Ext.cellOf hy (by assumption))) (fun hHeld => ?_)); clear hK K; (try simp only [Act.put, Ord.a, Ord.b, Ord.c]))
  (refine wpAnyH_ready (rs := [5]) (by kernel_rfl) (by simp) ?_; refine AllReadyH.cons rfl (fun K hK => ?_) AllReadyH.nil; go_simp; (first | (go_at_call 311; refine (PA.out _).mono ?_; rintro e w1 ⟨rfl, hy⟩) | (go_at_call 317; refine (PL.out _).mono ?_; rintro e w1 ⟨rfl, hy⟩) | (go_at_call 316; refine (PF.out _).mono ?_; rintro e w1 ⟨rfl, rfl⟩)); go_wp2_with fail; (refine hK.out _ _ (by first | assumption | exact Ext.trans (by assumption) hy | exact Res.ext (by assumption) hy | exact ResB.ext (by assumption) hy | exact ResC.ext (by assumption) hy | (go_split_ands; (repeat' apply And.intro) <;> exact Ext.cellOf hy (by assumption))) (fun hHeld => ?_)); clear hK K; (try simp only [Act.put, Ord.a, Ord.b, Ord.c]))
  refine Ord.K 6 7 ?_
  refine Ord.K 7 14 ?_
  refine Ord.K 8 15 ?_
  refine Ord.K 9 5 ?_
  refine Ord.K 10 6 ?_
  refine wpAnyH_done (by kernel_rfl) ?_ _
  go_wp2
  go_ret
  exact ⟨ret_int HQ.out, hX.trans (by assumption)⟩
set_option maxHeartbeats 2000000 in
theorem alongS_any (x y u v : Int) (w : World) (hx : -1000 ≤ x ∧ x ≤ 1000) (hy : -1000 ≤ y ∧ y ≤ 1000) (hu : -2000000 ≤ u ∧ u ≤ 2000000) (hv : -2000000 ≤ v ∧ v ≤ 2000000) (hh : ¬ (u = 0 ∧ v = 0)) :
    Calls Tryz.prog 306 #[Pt x y, Pt u v] w fun e w' => e = .returned (.int .i64 (lwN x y u v)) ∧ Ext w w' := by
  have PV := Lib.hid (fun w => vectorS_any x y w)
  have PD := Lib.hid (fun w => dot_any u v x y w hu hv (by omega) (by omega))
  have PS := Lib.hid (fun w => dot_any u v u v w hu hv hu hv)
  obtain ⟨b1, b2⟩ := (prod_bd hx hy hu hv).1
  obtain ⟨l1, l2⟩ := ln2_pos hu hv hh
  obtain ⟨s1, s2⟩ := sqs_bd hu hv
  have HQ := Lib.hid (show lwN x y u v = flo (u * x + v * y) (rt (u * u + v * v)) from rfl)
  unfold ln2 at l1 l2
  have PR := Lib.hid (fun w => root_any (u * u + v * v) w s1 (by omega))
  obtain ⟨Q, hQ⟩ : ∃ Q, Q = u * u + v * v := ⟨_, rfl⟩
  rw [← hQ] at PS PR HQ l1 l2
  obtain ⟨D, hD⟩ : ∃ D, D = u * x + v * y := ⟨_, rfl⟩
  obtain ⟨L, hL⟩ : ∃ L, L = rt Q := ⟨_, rfl⟩
  rw [← hD] at PD b1 b2 HQ
  rw [← hL] at PR l1 l2 HQ
  have PF := Lib.hid (fun w => floor_any D L w (by omega) (by omega) (by omega))
  clear hD hL hQ hx hy hu hv hh b1 b2 l1 l2 s1 s2
  obtain ⟨W0, hW0⟩ : ∃ W0, W0 = (w.alloc (.cells #[.int .i64 x, .int .i64 y] 54)).alloc (.cells #[.int .i64 u, .int .i64 v] 25) := ⟨_, rfl⟩
  have hX : Ext w W0 := hW0 ▸ (((Ext.refl w).alloc _).alloc _)
  have hs0 : W0.heap.size = w.heap.size + 1 + 1 := by rw [hW0]; simp
  have e00 : ∀ w', (Ext W0) w' → w'.cell? ⟨w.heap.size, 0, none⟩ = some (.int .i64 x) := fun w' h => h.cellOf (by rw [hW0]; exact ((Ext.refl _).alloc _).cellOf (boxed 0 rfl (by simp)))
  have e01 : ∀ w', (Ext W0) w' → w'.cell? ⟨w.heap.size, 1, none⟩ = some (.int .i64 y) := fun w' h => h.cellOf (by rw [hW0]; exact ((Ext.refl _).alloc _).cellOf (boxed 1 rfl (by simp)))
  have e10 : ∀ w', (Ext W0) w' → w'.cell? ⟨w.heap.size + 1, 0, none⟩ = some (.int .i64 u) := fun w' h => h.cellOf (by rw [hW0]; exact boxed 0 rfl (by simp))
  have e11 : ∀ w', (Ext W0) w' → w'.cell? ⟨w.heap.size + 1, 1, none⟩ = some (.int .i64 v) := fun w' h => h.cellOf (by rw [hW0]; exact boxed 1 rfl (by simp))
  have hr := Ext.refl W0
  go_enter Tryz.func306, Tryz.ntmps306
  go_wp2_with fail
  rw [← hW0]
  clear hW0
  refine wp_region_held_drew (S := (fun w' => Ext W0 w')) (by kernel_rfl) (by (try dsimp only); first | go_keep | exact (Ext.refl _).drew | exact Res.new2.drew | exact Res.new4.drew | exact ResB.drew (by assumption) | exact ResC.drew (by assumption) | assumption | exact Ext.drew (by assumption) | exact Res.drew (by assumption)) (fun hHeld => ?_)
  refine Ord.K 0 5 ?_
  refine Ord.K 1 6 ?_
  refine Ord.K 4 9 ?_
  refine Ord.K 5 10 ?_
  (refine wpAnyH_ready (rs := [2]) (by kernel_rfl) (by simp) ?_; refine AllReadyH.cons rfl (fun K hK => ?_) AllReadyH.nil; go_simp; (first | (go_at_call 216; refine (PV.out _).mono ?_; rintro e w1 ⟨rfl, hy⟩) | (go_at_call 133; with_reducible refine (PD.out _).mono ?_; rintro e w1 ⟨rfl, hy⟩) | (go_at_call 133; with_reducible refine (PS.out _).mono ?_; rintro e w1 ⟨rfl, hy⟩) | (go_at_call 132; refine (PR.out _).mono ?_; rintro e w1 ⟨rfl, rfl⟩) | (go_at_call 129; refine (PF.out _).mono ?_; rintro e w1 ⟨rfl, rfl⟩)); go_wp2_with fail; (refine hK.out _ _ (by first | assumption | exact Ext.trans (by assumption) hy | exact Res.ext (by assumption) hy | exact ResB.ext (by assumption) hy | exact ResC.ext (by assumption) hy | (go_split_ands; (repeat' apply And.intro) <;> exact Ext.cellOf hy (by assumption))) (fun hHeld => ?_)); clear hK K; (try simp only [Act.put, Ord.a, Ord.b, Ord.c]))
  (refine wpAnyH_ready (rs := [3]) (by kernel_rfl) (by simp) ?_; refine AllReadyH.cons rfl (fun K hK => ?_) AllReadyH.nil; go_simp; (first | (go_at_call 216; refine (PV.out _).mono ?_; rintro e w1 ⟨rfl, hy⟩) | (go_at_call 133; with_reducible refine (PD.out _).mono ?_; rintro e w1 ⟨rfl, hy⟩) | (go_at_call 133; with_reducible refine (PS.out _).mono ?_; rintro e w1 ⟨rfl, hy⟩) | (go_at_call 132; refine (PR.out _).mono ?_; rintro e w1 ⟨rfl, rfl⟩) | (go_at_call 129; refine (PF.out _).mono ?_; rintro e w1 ⟨rfl, rfl⟩)); go_wp2_with fail; (refine hK.out _ _ (by first | assumption | exact Ext.trans (by assumption) hy | exact Res.ext (by assumption) hy | exact ResB.ext (by assumption) hy | exact ResC.ext (by assumption) hy | (go_split_ands; (repeat' apply And.intro) <;> exact Ext.cellOf hy (by assumption))) (fun hHeld => ?_)); clear hK K; (try simp only [Act.put, Ord.a, Ord.b, Ord.c]))
  (refine wpAnyH_ready (rs := [6]) (by kernel_rfl) (by simp) ?_; refine AllReadyH.cons rfl (fun K hK => ?_) AllReadyH.nil; go_simp; (first | (go_at_call 216; refine (PV.out _).mono ?_; rintro e w1 ⟨rfl, hy⟩) | (go_at_call 133; with_reducible refine (PD.out _).mono ?_; rintro e w1 ⟨rfl, hy⟩) | (go_at_call 133; with_reducible refine (PS.out _).mono ?_; rintro e w1 ⟨rfl, hy⟩) | (go_at_call 132; refine (PR.out _).mono ?_; rintro e w1 ⟨rfl, rfl⟩) | (go_at_call 129; refine (PF.out _).mono ?_; rintro e w1 ⟨rfl, rfl⟩)); go_wp2_with fail; (refine hK.out _ _ (by first | assumption | exact Ext.trans (by assumption) hy | exact Res.ext (by assumption) hy | exact ResB.ext (by assumption) hy | exact ResC.ext (by assumption) hy | (go_split_ands; (repeat' apply And.intro) <;> exact Ext.cellOf hy (by assumption))) (fun hHeld => ?_)); clear hK K; (try simp only [Act.put, Ord.a, Ord.b, Ord.c]))
  (refine wpAnyH_ready (rs := [7]) (by kernel_rfl) (by simp) ?_; refine AllReadyH.cons rfl (fun K hK => ?_) AllReadyH.nil; go_simp; (first | (go_at_call 216; refine (PV.out _).mono ?_; rintro e w1 ⟨rfl, hy⟩) | (go_at_call 133; with_reducible refine (PD.out _).mono ?_; rintro e w1 ⟨rfl, hy⟩) | (go_at_call 133; with_reducible refine (PS.out _).mono ?_; rintro e w1 ⟨rfl, hy⟩) | (go_at_call 132; refine (PR.out _).mono ?_; rintro e w1 ⟨rfl, rfl⟩) | (go_at_call 129; refine (PF.out _).mono ?_; rintro e w1 ⟨rfl, rfl⟩)); go_wp2_with fail; (refine hK.out _ _ (by first | assumption | exact Ext.trans (by assumption) hy | exact Res.ext (by assumption) hy | exact ResB.ext (by assumption) hy | exact ResC.ext (by assumption) hy | (go_split_ands; (repeat' apply And.intro) <;> exact Ext.cellOf hy (by assumption))) (fun hHeld => ?_)); clear hK K; (try simp only [Act.put, Ord.a, Ord.b, Ord.c]))
  (refine wpAnyH_ready (rs := [8]) (by kernel_rfl) (by simp) ?_; refine AllReadyH.cons rfl (fun K hK => ?_) AllReadyH.nil; go_simp; (first | (go_at_call 216; refine (PV.out _).mono ?_; rintro e w1 ⟨rfl, hy⟩) | (go_at_call 133; with_reducible refine (PD.out _).mono ?_; rintro e w1 ⟨rfl, hy⟩) | (go_at_call 133; with_reducible refine (PS.out _).mono ?_; rintro e w1 ⟨rfl, hy⟩) | (go_at_call 132; refine (PR.out _).mono ?_; rintro e w1 ⟨rfl, rfl⟩) | (go_at_call 129; refine (PF.out _).mono ?_; rintro e w1 ⟨rfl, rfl⟩)); go_wp2_with fail; (refine hK.out _ _ (by first | assumption | exact Ext.trans (by assumption) hy | exact Res.ext (by assumption) hy | exact ResB.ext (by assumption) hy | exact ResC.ext (by assumption) hy | (go_split_ands; (repeat' apply And.intro) <;> exact Ext.cellOf hy (by assumption))) (fun hHeld => ?_)); clear hK K; (try simp only [Act.put, Ord.a, Ord.b, Ord.c]))
  refine Ord.K 9 4 ?_
  refine wpAnyH_done (by kernel_rfl) ?_ _
  go_wp2
  go_ret
  exact ⟨ret_int HQ.out, hX.trans (by assumption)⟩
set_option maxHeartbeats 2000000 in
theorem kindOfTurn_any (x y p q u v : Int) (w : World) (hx : -1000 ≤ x ∧ x ≤ 1000) (hy : -1000 ≤ y ∧ y ≤ 1000) (hp : -2000000 ≤ p ∧ p ≤ 2000000) (hq : -2000000 ≤ q ∧ q ≤ 2000000) (hg : ¬ (p = 0 ∧ q = 0)) (hu : -2000000 ≤ u ∧ u ≤ 2000000) (hv : -2000000 ≤ v ∧ v ≤ 2000000) (hh : ¬ (u = 0 ∧ v = 0)) :
    Calls Tryz.prog 273 #[Pt x y, Pt p q, Pt u v] w fun e w' => e = .returned (.int .i64 (knN x y p q u v)) ∧ Ext w w' := by
  have P1 := Lib.hid (fun w => leeway_any x y p q w hx hy hp hq hg)
  have P2 := Lib.hid (fun w => leeway_any x y u v w hx hy hu hv hh)
  have a := lw_bd hx hy hp hq hg
  have b := lw_bd hx hy hu hv hh
  have key : (lwN x y p q + lwN x y u v < 0 ∧ knN x y p q u v = 1) ∨ (¬ lwN x y p q + lwN x y u v < 0 ∧ knN x y p q u v = 2) := by
    unfold knN
    by_cases h : lwN x y p q + lwN x y u v < 0
    · exact .inl ⟨h, if_pos h⟩
    · exact .inr ⟨h, if_neg h⟩
  generalize knN x y p q u v = K at *
  generalize lwN x y p q = A at *
  generalize lwN x y u v = B at *
  clear hx hy hp hq hg hu hv hh
  have T0 : IntKind.i64.wrap (A + B) = A + B := IntWalk.i64_in _ (by omega)
  clear a b
  obtain ⟨W0, hW0⟩ : ∃ W0, W0 = ((w.alloc (.cells #[.int .i64 x, .int .i64 y] 54)).alloc (.cells #[.int .i64 p, .int .i64 q] 25)).alloc (.cells #[.int .i64 u, .int .i64 v] 25) := ⟨_, rfl⟩
  have hX : Ext w W0 := hW0 ▸ ((((Ext.refl w).alloc _).alloc _).alloc _)
  have hs0 : W0.heap.size = w.heap.size + 1 + 1 + 1 := by rw [hW0]; simp
  have e00 : ∀ w', (Ext W0) w' → w'.cell? ⟨w.heap.size, 0, none⟩ = some (.int .i64 x) := fun w' h => h.cellOf (by rw [hW0]; exact (((Ext.refl _).alloc _).alloc _).cellOf (boxed 0 rfl (by simp)))
  have e01 : ∀ w', (Ext W0) w' → w'.cell? ⟨w.heap.size, 1, none⟩ = some (.int .i64 y) := fun w' h => h.cellOf (by rw [hW0]; exact (((Ext.refl _).alloc _).alloc _).cellOf (boxed 1 rfl (by simp)))
  have e10 : ∀ w', (Ext W0) w' → w'.cell? ⟨w.heap.size + 1, 0, none⟩ = some (.int .i64 p) := fun w' h => h.cellOf (by rw [hW0]; exact ((Ext.refl _).alloc _).cellOf (boxed 0 rfl (by simp)))
  have e11 : ∀ w', (Ext W0) w' → w'.cell? ⟨w.heap.size + 1, 1, none⟩ = some (.int .i64 q) := fun w' h => h.cellOf (by rw [hW0]; exact ((Ext.refl _).alloc _).cellOf (boxed 1 rfl (by simp)))
  have e20 : ∀ w', (Ext W0) w' → w'.cell? ⟨w.heap.size + 1 + 1, 0, none⟩ = some (.int .i64 u) := fun w' h => h.cellOf (by rw [hW0]; exact boxed 0 rfl (by simp))
  have e21 : ∀ w', (Ext W0) w' → w'.cell? ⟨w.heap.size + 1 + 1, 1, none⟩ = some (.int .i64 v) := fun w' h => h.cellOf (by rw [hW0]; exact boxed 1 rfl (by simp))
  have hr := Ext.refl W0
  rcases key with ⟨h, rfl⟩ | ⟨h, rfl⟩
  all_goals
    go_enter Tryz.func273, Tryz.ntmps273
    go_wp2_with fail
    rw [← hW0]
    clear hW0
    refine wp_region_held_drew (S := (fun w' => Ext W0 w')) (by kernel_rfl) (by (try dsimp only); first | go_keep | exact (Ext.refl _).drew | exact Res.new2.drew | exact Res.new4.drew | exact ResB.drew (by assumption) | exact ResC.drew (by assumption) | assumption | exact Ext.drew (by assumption) | exact Res.drew (by assumption)) (fun hHeld => ?_)
    refine Ord.K 0 7 ?_
    refine Ord.K 1 8 ?_
    refine Ord.K 3 10 ?_
    refine Ord.K 4 11 ?_
    (refine wpAnyH_ready (rs := [2]) (by kernel_rfl) (by simp) ?_; refine AllReadyH.cons rfl (fun K hK => ?_) AllReadyH.nil; go_simp; (first | (go_at_call 309; with_reducible refine (P1.out _).mono ?_; rintro e w1 ⟨rfl, hy⟩) | (go_at_call 309; with_reducible refine (P2.out _).mono ?_; rintro e w1 ⟨rfl, hy⟩)); go_wp2_with fail; (refine hK.out _ _ (by first | assumption | exact Ext.trans (by assumption) hy | exact Res.ext (by assumption) hy | exact ResB.ext (by assumption) hy | exact ResC.ext (by assumption) hy | (go_split_ands; (repeat' apply And.intro) <;> exact Ext.cellOf hy (by assumption))) (fun hHeld => ?_)); clear hK K; (try simp only [Act.put, Ord.a, Ord.b, Ord.c]))
    (refine wpAnyH_ready (rs := [5]) (by kernel_rfl) (by simp) ?_; refine AllReadyH.cons rfl (fun K hK => ?_) AllReadyH.nil; go_simp; (first | (go_at_call 309; with_reducible refine (P1.out _).mono ?_; rintro e w1 ⟨rfl, hy⟩) | (go_at_call 309; with_reducible refine (P2.out _).mono ?_; rintro e w1 ⟨rfl, hy⟩)); go_wp2_with fail; (refine hK.out _ _ (by first | assumption | exact Ext.trans (by assumption) hy | exact Res.ext (by assumption) hy | exact ResB.ext (by assumption) hy | exact ResC.ext (by assumption) hy | (go_split_ands; (repeat' apply And.intro) <;> exact Ext.cellOf hy (by assumption))) (fun hHeld => ?_)); clear hK K; (try simp only [Act.put, Ord.a, Ord.b, Ord.c]))
    refine Ord.K 6 13 ?_
    refine Ord.K 7 14 ?_
    refine wpAnyH_done (by kernel_rfl) ?_ _
    go_wp2
    go_ret
    exact ⟨rfl, hX.trans (by assumption)⟩
def tkA (x y : Int) (fs : List F3) (k : Nat) : Int := tkN (hdX fs k * y - hdY fs k * x)
def knA (x y : Int) (fs : List F3) (k : Nat) : Int := knN x y (hdX fs k) (hdY fs k) (hdX fs (k + 1)) (hdY fs (k + 1))
def mnL (x y : Int) (fs : List F3) : Nat → List M2
  | 0 => []
  | n + 1 => if opB (tkA x y fs n) (tkA x y fs (n + 1)) = true then mnL x y fs n ++ [⟨n + 1, knA x y fs n⟩] else mnL x y fs n
theorem mnL_yes {x y : Int} {fs : List F3} {n : Nat} (h : opB (tkA x y fs n) (tkA x y fs (n + 1)) = true) : mnL x y fs (n + 1) = mnL x y fs n ++ [⟨n + 1, knA x y fs n⟩] := if_pos h
theorem mnL_no {x y : Int} {fs : List F3} {n : Nat} (h : opB (tkA x y fs n) (tkA x y fs (n + 1)) = false) : mnL x y fs (n + 1) = mnL x y fs n := if_neg (by rw [h]; decide)
theorem mnL_len (x y : Int) (fs : List F3) : ∀ n, (mnL x y fs n).length ≤ n
  | 0 => Nat.le_refl _
  | n + 1 => by
    have := mnL_len x y fs n
    unfold mnL
    split
    · simp; omega
    · omega
theorem tkN_cases (c : Int) : tkN c = 0 ∨ tkN c = 1 ∨ tkN c = 2 := by
  unfold tkN
  split
  · exact .inr (.inl rfl)
  · split
    · exact .inr (.inr rfl)
    · exact .inl rfl
theorem tkN_ne {x y u v : Int} (h : tkN (u * y - v * x) ≠ 0) : ¬ (u = 0 ∧ v = 0) := by
  rintro ⟨rfl, rfl⟩
  apply h
  simp [tkN]
theorem op_ne {x y : Int} {fs : List F3} {n : Nat} (h : opB (tkA x y fs n) (tkA x y fs (n + 1)) = true) : ¬ (hdX fs n = 0 ∧ hdY fs n = 0) ∧ ¬ (hdX fs (n + 1) = 0 ∧ hdY fs (n + 1) = 0) := by
  unfold opB at h
  simp only [Bool.and_eq_true, bne_iff_ne] at h
  exact ⟨tkN_ne h.1, tkN_ne h.2.1⟩
def moC (x y : Int) (fs : List F3) : Int := if wdB x y = true ∧ trB fs = true then 0 else 1
def moL (x y : Int) (fs : List F3) : List M2 := if wdB x y = true ∧ trB fs = true then mnL x y fs (fs.length - 2) else []
theorem moL_len (x y : Int) (fs : List F3) (h : fs.length ≤ 1048576) : (moL x y fs).length ≤ 40 := by
  unfold moL
  split
  · rename_i h
    have := mnL_len x y fs (fs.length - 2)
    have := (Trk.trB_yes h.2).1
    omega
  · simp
theorem mo_no1 {x y : Int} {fs : List F3} (h : wdB x y = false) : moC x y fs = 1 ∧ moL x y fs = [] := by
  unfold moC moL; simp [h]
theorem mo_no2 {x y : Int} {fs : List F3} (h : trB fs = false) : moC x y fs = 1 ∧ moL x y fs = [] := by
  unfold moC moL; simp [h]
theorem mo_yes {x y : Int} {fs : List F3} (h : wdB x y = true) (g : trB fs = true) : moC x y fs = 0 ∧ moL x y fs = mnL x y fs (fs.length - 2) := ⟨if_pos ⟨h, g⟩, if_pos ⟨h, g⟩⟩
end Go.Proofs.YtmlojndkpnhalaaGreat.Wnd
