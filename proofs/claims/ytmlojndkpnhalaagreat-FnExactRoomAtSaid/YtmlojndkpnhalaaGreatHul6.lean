import Derived.Test.YtmlojndkpnhalaaGreatHul5
namespace Go.Proofs.YtmlojndkpnhalaaGreat.Hul
open Go.ChangeShapes Go.WideShapes Go.ChangeAt Go.RowKit
open Go.Proofs.YtmlojndkpnhalaaGreat.Num Go.Proofs.YtmlojndkpnhalaaGreat.Kit Go.Proofs.YtmlojndkpnhalaaGreat.Pts Go.Proofs.YtmlojndkpnhalaaGreat.Seg Go.Proofs.YtmlojndkpnhalaaGreat.Wnd
set_option linter.unusedVariables false
set_option linter.unusedSimpArgs false
theorem ww_lt {s t : Int} (h : s < t) : wwN s t = 1 := if_pos h
theorem ww_gt {s t : Int} (h : t < s) : wwN s t = 2 := by unfold wwN; rw [if_neg (by omega), if_pos h]
theorem ww_eq {s t : Int} (h1 : ¬ s < t) (h2 : ¬ t < s) : wwN s t = 0 := by unfold wwN; rw [if_neg h1, if_neg h2]
theorem pr_bd {x y a b : Int} (hx : -1000 ≤ x ∧ x ≤ 1000) (hy : -1000 ≤ y ∧ y ≤ 1000) (ha : Co a) (hb : Co b) : -2000000000 ≤ a * x + b * y ∧ a * x + b * y ≤ 2000000000 := by
  unfold Co at ha hb
  have := mul_bd 1000000 1000 ha hx
  have := mul_bd 1000000 1000 hb hy
  simp only [Int.reduceMul, Int.reduceNeg] at *
  omega
set_option maxHeartbeats 1000000 in
theorem windwardS_any (x y a b c d n p q u v m : Int) (w : World) (hx : -1000 ≤ x ∧ x ≤ 1000) (hy : -1000 ≤ y ∧ y ≤ 1000) (ha : Co a) (hb : Co b) (hp : Co p) (hq : Co q) :
    Calls Tryz.prog 157 #[Pt x y, Hv a b c d n, Hv p q u v m] w fun e w' => e = .returned (.int .i64 (wwN (a * x + b * y) (p * x + q * y))) ∧ Ext w w' := by
  obtain ⟨s1, s2⟩ := pr_bd hx hy ha hb
  obtain ⟨t1, t2⟩ := pr_bd hx hy hp hq
  unfold Co at ha hb hp hq
  have PV := Lib.hid (fun w => vectorS_any x y w)
  have PD := Lib.hid (fun w => dot_any a b x y w (by omega) (by omega) (by omega) (by omega))
  have PE := Lib.hid (fun w => dot_any p q x y w (by omega) (by omega) (by omega) (by omega))
  obtain ⟨s, hs⟩ : ∃ s, s = a * x + b * y := ⟨_, rfl⟩
  obtain ⟨t, ht⟩ : ∃ t, t = p * x + q * y := ⟨_, rfl⟩
  rw [← hs] at PD s1 s2 ⊢
  rw [← ht] at PE t1 t2 ⊢
  clear hs ht ha hb hp hq hx hy
  have T0 : IntKind.i64.wrap (s - t) = s - t := IntWalk.i64_in _ (by omega)
  have PS := Lib.hid (fun w => sign_any (s - t) w)
  obtain ⟨W0, hW0⟩ : ∃ W0, W0 = ((w.alloc (.cells #[.int .i64 x, .int .i64 y] 54)).alloc (.cells #[.int .i64 a, .int .i64 b, .int .i64 c, .int .i64 d, .int .i64 n] 62)).alloc (.cells #[.int .i64 p, .int .i64 q, .int .i64 u, .int .i64 v, .int .i64 m] 62) := ⟨_, rfl⟩
  have hX : Ext w W0 := hW0 ▸ ((((Ext.refl w).alloc _).alloc _).alloc _)
  have hs0 : W0.heap.size = w.heap.size + 1 + 1 + 1 := by rw [hW0]; simp
  have e00 : ∀ w', (Ext W0) w' → w'.cell? ⟨w.heap.size, 0, none⟩ = some (.int .i64 x) := fun w' h => h.cellOf (by rw [hW0]; exact (((Ext.refl _).alloc _).alloc _).cellOf (boxed 0 rfl (by simp)))
  have e01 : ∀ w', (Ext W0) w' → w'.cell? ⟨w.heap.size, 1, none⟩ = some (.int .i64 y) := fun w' h => h.cellOf (by rw [hW0]; exact (((Ext.refl _).alloc _).alloc _).cellOf (boxed 1 rfl (by simp)))
  have e10 : ∀ w', (Ext W0) w' → w'.cell? ⟨w.heap.size + 1, 0, none⟩ = some (.int .i64 a) := fun w' h => h.cellOf (by rw [hW0]; exact ((Ext.refl _).alloc _).cellOf (boxed 0 rfl (by simp)))
  have e11 : ∀ w', (Ext W0) w' → w'.cell? ⟨w.heap.size + 1, 1, none⟩ = some (.int .i64 b) := fun w' h => h.cellOf (by rw [hW0]; exact ((Ext.refl _).alloc _).cellOf (boxed 1 rfl (by simp)))
  have e12 : ∀ w', (Ext W0) w' → w'.cell? ⟨w.heap.size + 1, 2, none⟩ = some (.int .i64 c) := fun w' h => h.cellOf (by rw [hW0]; exact ((Ext.refl _).alloc _).cellOf (boxed 2 rfl (by simp)))
  have e13 : ∀ w', (Ext W0) w' → w'.cell? ⟨w.heap.size + 1, 3, none⟩ = some (.int .i64 d) := fun w' h => h.cellOf (by rw [hW0]; exact ((Ext.refl _).alloc _).cellOf (boxed 3 rfl (by simp)))
  have e14 : ∀ w', (Ext W0) w' → w'.cell? ⟨w.heap.size + 1, 4, none⟩ = some (.int .i64 n) := fun w' h => h.cellOf (by rw [hW0]; exact ((Ext.refl _).alloc _).cellOf (boxed 4 rfl (by simp)))
  have e20 : ∀ w', (Ext W0) w' → w'.cell? ⟨w.heap.size + 1 + 1, 0, none⟩ = some (.int .i64 p) := fun w' h => h.cellOf (by rw [hW0]; exact boxed 0 rfl (by simp))
  have e21 : ∀ w', (Ext W0) w' → w'.cell? ⟨w.heap.size + 1 + 1, 1, none⟩ = some (.int .i64 q) := fun w' h => h.cellOf (by rw [hW0]; exact boxed 1 rfl (by simp))
  have e22 : ∀ w', (Ext W0) w' → w'.cell? ⟨w.heap.size + 1 + 1, 2, none⟩ = some (.int .i64 u) := fun w' h => h.cellOf (by rw [hW0]; exact boxed 2 rfl (by simp))
  have e23 : ∀ w', (Ext W0) w' → w'.cell? ⟨w.heap.size + 1 + 1, 3, none⟩ = some (.int .i64 v) := fun w' h => h.cellOf (by rw [hW0]; exact boxed 3 rfl (by simp))
  have e24 : ∀ w', (Ext W0) w' → w'.cell? ⟨w.heap.size + 1 + 1, 4, none⟩ = some (.int .i64 m) := fun w' h => h.cellOf (by rw [hW0]; exact boxed 4 rfl (by simp))
  have hr := Ext.refl W0
  have key : (s < t ∧ sgn (s - t) = -1) ∨ (t < s ∧ sgn (s - t) = 1) ∨ (s = t ∧ sgn (s - t) = 0) := by
    unfold sgn
    by_cases h1 : s < t
    · exact .inl ⟨h1, if_pos (by omega)⟩
    · by_cases h2 : t < s
      · exact .inr (.inl ⟨h2, by rw [if_neg (by omega), if_pos (by omega)]⟩)
      · exact .inr (.inr ⟨by omega, by rw [if_neg (by omega), if_neg (by omega)]⟩)
  go_enter Tryz.func157, Tryz.ntmps157
  go_wp2_with fail
  rw [← hW0]
  clear hW0
  rcases key with ⟨h1, hk⟩ | ⟨h1, hk⟩ | ⟨h1, hk⟩
  all_goals
    have HR := Lib.hid (show wwN s t = _ from by first | exact ww_lt h1 | exact ww_gt h1 | exact ww_eq (by omega) (by omega))
    rw [hk] at PS
    clear h1 hk s1 s2 t1 t2
    refine wp_region_held_drew (S := (fun w' => Ext W0 w')) (by kernel_rfl) (by (try dsimp only); first | go_keep | exact (Ext.refl _).drew | exact Res.new2.drew | exact Res.new4.drew | exact ResB.drew (by assumption) | exact ResC.drew (by assumption) | assumption | exact Ext.drew (by assumption) | exact Res.drew (by assumption)) (fun hHeld => ?_)
    refine Ord.K 0 7 ?_
    refine Ord.K 1 8 ?_
    refine Ord.K 2 9 ?_
    refine Ord.K 5 12 ?_
    refine Ord.K 6 13 ?_
    refine Ord.K 7 14 ?_
    (refine wpAnyH_ready (rs := [3]) (by kernel_rfl) (by simp) ?_; refine AllReadyH.cons rfl (fun K hK => ?_) AllReadyH.nil; go_simp; (first | (go_at_call 216; refine (PV.out _).mono ?_; rintro e w4 ⟨rfl, hy⟩) | (go_at_call 133; with_reducible refine (PD.out _).mono ?_; rintro e w4 ⟨rfl, hy⟩) | (go_at_call 133; with_reducible refine (PE.out _).mono ?_; rintro e w4 ⟨rfl, hy⟩) | (go_at_call 214; refine (PS.out _).mono ?_; rintro e w4 ⟨rfl, rfl⟩)); go_wp2_with fail; (refine hK.out _ _ (by first | assumption | exact Ext.trans (by assumption) hy | exact Res.ext (by assumption) hy | exact ResB.ext (by assumption) hy | exact ResC.ext (by assumption) hy | (go_split_ands; (repeat' apply And.intro) <;> exact Ext.cellOf hy (by assumption))) (fun hHeld => ?_)); clear hK K; (try simp only [Act.put, Ord.a, Ord.b, Ord.c]))
    (refine wpAnyH_ready (rs := [4]) (by kernel_rfl) (by simp) ?_; refine AllReadyH.cons rfl (fun K hK => ?_) AllReadyH.nil; go_simp; (first | (go_at_call 216; refine (PV.out _).mono ?_; rintro e w4 ⟨rfl, hy⟩) | (go_at_call 133; with_reducible refine (PD.out _).mono ?_; rintro e w4 ⟨rfl, hy⟩) | (go_at_call 133; with_reducible refine (PE.out _).mono ?_; rintro e w4 ⟨rfl, hy⟩) | (go_at_call 214; refine (PS.out _).mono ?_; rintro e w4 ⟨rfl, rfl⟩)); go_wp2_with fail; (refine hK.out _ _ (by first | assumption | exact Ext.trans (by assumption) hy | exact Res.ext (by assumption) hy | exact ResB.ext (by assumption) hy | exact ResC.ext (by assumption) hy | (go_split_ands; (repeat' apply And.intro) <;> exact Ext.cellOf hy (by assumption))) (fun hHeld => ?_)); clear hK K; (try simp only [Act.put, Ord.a, Ord.b, Ord.c]))
    (refine wpAnyH_ready (rs := [8]) (by kernel_rfl) (by simp) ?_; refine AllReadyH.cons rfl (fun K hK => ?_) AllReadyH.nil; go_simp; (first | (go_at_call 216; refine (PV.out _).mono ?_; rintro e w4 ⟨rfl, hy⟩) | (go_at_call 133; with_reducible refine (PD.out _).mono ?_; rintro e w4 ⟨rfl, hy⟩) | (go_at_call 133; with_reducible refine (PE.out _).mono ?_; rintro e w4 ⟨rfl, hy⟩) | (go_at_call 214; refine (PS.out _).mono ?_; rintro e w4 ⟨rfl, rfl⟩)); go_wp2_with fail; (refine hK.out _ _ (by first | assumption | exact Ext.trans (by assumption) hy | exact Res.ext (by assumption) hy | exact ResB.ext (by assumption) hy | exact ResC.ext (by assumption) hy | (go_split_ands; (repeat' apply And.intro) <;> exact Ext.cellOf hy (by assumption))) (fun hHeld => ?_)); clear hK K; (try simp only [Act.put, Ord.a, Ord.b, Ord.c]))
    (refine wpAnyH_ready (rs := [9]) (by kernel_rfl) (by simp) ?_; refine AllReadyH.cons rfl (fun K hK => ?_) AllReadyH.nil; go_simp; (first | (go_at_call 216; refine (PV.out _).mono ?_; rintro e w4 ⟨rfl, hy⟩) | (go_at_call 133; with_reducible refine (PD.out _).mono ?_; rintro e w4 ⟨rfl, hy⟩) | (go_at_call 133; with_reducible refine (PE.out _).mono ?_; rintro e w4 ⟨rfl, hy⟩) | (go_at_call 214; refine (PS.out _).mono ?_; rintro e w4 ⟨rfl, rfl⟩)); go_wp2_with fail; (refine hK.out _ _ (by first | assumption | exact Ext.trans (by assumption) hy | exact Res.ext (by assumption) hy | exact ResB.ext (by assumption) hy | exact ResC.ext (by assumption) hy | (go_split_ands; (repeat' apply And.intro) <;> exact Ext.cellOf hy (by assumption))) (fun hHeld => ?_)); clear hK K; (try simp only [Act.put, Ord.a, Ord.b, Ord.c]))
    refine Ord.K 10 17 ?_
    (refine wpAnyH_ready (rs := [11]) (by kernel_rfl) (by simp) ?_; refine AllReadyH.cons rfl (fun K hK => ?_) AllReadyH.nil; go_simp; (first | (go_at_call 216; refine (PV.out _).mono ?_; rintro e w4 ⟨rfl, hy⟩) | (go_at_call 133; with_reducible refine (PD.out _).mono ?_; rintro e w4 ⟨rfl, hy⟩) | (go_at_call 133; with_reducible refine (PE.out _).mono ?_; rintro e w4 ⟨rfl, hy⟩) | (go_at_call 214; refine (PS.out _).mono ?_; rintro e w4 ⟨rfl, rfl⟩)); go_wp2_with fail; (refine hK.out _ _ (by first | assumption | exact Ext.trans (by assumption) hy | exact Res.ext (by assumption) hy | exact ResB.ext (by assumption) hy | exact ResC.ext (by assumption) hy | (go_split_ands; (repeat' apply And.intro) <;> exact Ext.cellOf hy (by assumption))) (fun hHeld => ?_)); clear hK K; (try simp only [Act.put, Ord.a, Ord.b, Ord.c]))
    refine wpAnyH_done (by kernel_rfl) ?_ _
    go_wp2
    go_ret
    exact ⟨ret_int HR.out, hX.trans (by assumption)⟩
theorem hullWithLess_any (s t : Int) (w : World) : Calls Tryz.prog 310 #[.int .i64 s, .int .i64 t] w fun e w' => e = .returned (.int .i64 (wwN s t)) ∧ w = w' := by
  have key : s < t ∨ (¬ s < t ∧ t < s) ∨ (¬ s < t ∧ ¬ t < s) := by omega
  rcases key with h4 | ⟨h4, h5⟩ | ⟨h4, h5⟩
  all_goals
    have HV := Lib.hid (show wwN s t = _ from by first | exact ww_lt h4 | exact ww_gt h5 | exact ww_eq (by omega) (by omega))
    go_enter Tryz.func310, Tryz.ntmps310
    go_wp2
    go_ret
    exact ⟨ret_int HV.out, rfl⟩
set_option maxHeartbeats 1000000 in
theorem windwardHull_any (x y a b c d n p q u v m : Int) (w : World) (hx : -1000 ≤ x ∧ x ≤ 1000) (hy : -1000 ≤ y ∧ y ≤ 1000) (ha : Co a) (hb : Co b) (hp : Co p) (hq : Co q) :
    Calls Tryz.prog 277 #[Pt x y, Hv a b c d n, Hv p q u v m] w fun e w' => e = .returned (.int .i64 (wwN (a * x + b * y) (p * x + q * y))) ∧ Ext w w' := by
  unfold Co at ha hb hp hq
  have PA := Lib.hid (fun w => along_any x y a b w hx hy (by omega) (by omega))
  have PB := Lib.hid (fun w => along_any x y p q w hx hy (by omega) (by omega))
  have PL := Lib.hid (fun w => hullWithLess_any (a * x + b * y) (p * x + q * y) w)
  generalize wwN (a * x + b * y) (p * x + q * y) = K at *
  generalize a * x + b * y = s at *
  generalize p * x + q * y = t at *
  clear ha hb hp hq hx hy
  obtain ⟨W0, hW0⟩ : ∃ W0, W0 = ((w.alloc (.cells #[.int .i64 x, .int .i64 y] 54)).alloc (.cells #[.int .i64 a, .int .i64 b, .int .i64 c, .int .i64 d, .int .i64 n] 62)).alloc (.cells #[.int .i64 p, .int .i64 q, .int .i64 u, .int .i64 v, .int .i64 m] 62) := ⟨_, rfl⟩
  have hX : Ext w W0 := hW0 ▸ ((((Ext.refl w).alloc _).alloc _).alloc _)
  have hs0 : W0.heap.size = w.heap.size + 1 + 1 + 1 := by rw [hW0]; simp
  have e00 : ∀ w', (Ext W0) w' → w'.cell? ⟨w.heap.size, 0, none⟩ = some (.int .i64 x) := fun w' h => h.cellOf (by rw [hW0]; exact (((Ext.refl _).alloc _).alloc _).cellOf (boxed 0 rfl (by simp)))
  have e01 : ∀ w', (Ext W0) w' → w'.cell? ⟨w.heap.size, 1, none⟩ = some (.int .i64 y) := fun w' h => h.cellOf (by rw [hW0]; exact (((Ext.refl _).alloc _).alloc _).cellOf (boxed 1 rfl (by simp)))
  have e10 : ∀ w', (Ext W0) w' → w'.cell? ⟨w.heap.size + 1, 0, none⟩ = some (.int .i64 a) := fun w' h => h.cellOf (by rw [hW0]; exact ((Ext.refl _).alloc _).cellOf (boxed 0 rfl (by simp)))
  have e11 : ∀ w', (Ext W0) w' → w'.cell? ⟨w.heap.size + 1, 1, none⟩ = some (.int .i64 b) := fun w' h => h.cellOf (by rw [hW0]; exact ((Ext.refl _).alloc _).cellOf (boxed 1 rfl (by simp)))
  have e12 : ∀ w', (Ext W0) w' → w'.cell? ⟨w.heap.size + 1, 2, none⟩ = some (.int .i64 c) := fun w' h => h.cellOf (by rw [hW0]; exact ((Ext.refl _).alloc _).cellOf (boxed 2 rfl (by simp)))
  have e13 : ∀ w', (Ext W0) w' → w'.cell? ⟨w.heap.size + 1, 3, none⟩ = some (.int .i64 d) := fun w' h => h.cellOf (by rw [hW0]; exact ((Ext.refl _).alloc _).cellOf (boxed 3 rfl (by simp)))
  have e14 : ∀ w', (Ext W0) w' → w'.cell? ⟨w.heap.size + 1, 4, none⟩ = some (.int .i64 n) := fun w' h => h.cellOf (by rw [hW0]; exact ((Ext.refl _).alloc _).cellOf (boxed 4 rfl (by simp)))
  have e20 : ∀ w', (Ext W0) w' → w'.cell? ⟨w.heap.size + 1 + 1, 0, none⟩ = some (.int .i64 p) := fun w' h => h.cellOf (by rw [hW0]; exact boxed 0 rfl (by simp))
  have e21 : ∀ w', (Ext W0) w' → w'.cell? ⟨w.heap.size + 1 + 1, 1, none⟩ = some (.int .i64 q) := fun w' h => h.cellOf (by rw [hW0]; exact boxed 1 rfl (by simp))
  have e22 : ∀ w', (Ext W0) w' → w'.cell? ⟨w.heap.size + 1 + 1, 2, none⟩ = some (.int .i64 u) := fun w' h => h.cellOf (by rw [hW0]; exact boxed 2 rfl (by simp))
  have e23 : ∀ w', (Ext W0) w' → w'.cell? ⟨w.heap.size + 1 + 1, 3, none⟩ = some (.int .i64 v) := fun w' h => h.cellOf (by rw [hW0]; exact boxed 3 rfl (by simp))
  have e24 : ∀ w', (Ext W0) w' → w'.cell? ⟨w.heap.size + 1 + 1, 4, none⟩ = some (.int .i64 m) := fun w' h => h.cellOf (by rw [hW0]; exact boxed 4 rfl (by simp))
  have hr := Ext.refl W0
  go_enter Tryz.func277, Tryz.ntmps277
  go_wp2_with fail
  rw [← hW0]
  clear hW0
  refine wp_region_held_drew (S := (fun w' => Ext W0 w')) (by kernel_rfl) (by (try dsimp only); first | go_keep | exact (Ext.refl _).drew | exact Res.new2.drew | exact Res.new4.drew | exact ResB.drew (by assumption) | exact ResC.drew (by assumption) | assumption | exact Ext.drew (by assumption) | exact Res.drew (by assumption)) (fun hHeld => ?_)
  refine Ord.K 0 7 ?_
  refine Ord.K 1 8 ?_
  refine Ord.K 2 9 ?_
  refine Ord.K 4 11 ?_
  refine Ord.K 5 12 ?_
  refine Ord.K 6 13 ?_
  (refine wpAnyH_ready (rs := [3]) (by kernel_rfl) (by simp) ?_; refine AllReadyH.cons rfl (fun K hK => ?_) AllReadyH.nil; go_simp; (first | (go_at_call 311; with_reducible refine (PA.out _).mono ?_; rintro e w4 ⟨rfl, hy⟩) | (go_at_call 311; with_reducible refine (PB.out _).mono ?_; rintro e w4 ⟨rfl, hy⟩) | (go_at_call 310; refine (PL.out _).mono ?_; rintro e w4 ⟨rfl, rfl⟩)); go_wp2_with fail; (refine hK.out _ _ (by first | assumption | exact Ext.trans (by assumption) hy | exact Res.ext (by assumption) hy | exact ResB.ext (by assumption) hy | exact ResC.ext (by assumption) hy | (go_split_ands; (repeat' apply And.intro) <;> exact Ext.cellOf hy (by assumption))) (fun hHeld => ?_)); clear hK K; (try simp only [Act.put, Ord.a, Ord.b, Ord.c]))
  (refine wpAnyH_ready (rs := [7]) (by kernel_rfl) (by simp) ?_; refine AllReadyH.cons rfl (fun K hK => ?_) AllReadyH.nil; go_simp; (first | (go_at_call 311; with_reducible refine (PA.out _).mono ?_; rintro e w4 ⟨rfl, hy⟩) | (go_at_call 311; with_reducible refine (PB.out _).mono ?_; rintro e w4 ⟨rfl, hy⟩) | (go_at_call 310; refine (PL.out _).mono ?_; rintro e w4 ⟨rfl, rfl⟩)); go_wp2_with fail; (refine hK.out _ _ (by first | assumption | exact Ext.trans (by assumption) hy | exact Res.ext (by assumption) hy | exact ResB.ext (by assumption) hy | exact ResC.ext (by assumption) hy | (go_split_ands; (repeat' apply And.intro) <;> exact Ext.cellOf hy (by assumption))) (fun hHeld => ?_)); clear hK K; (try simp only [Act.put, Ord.a, Ord.b, Ord.c]))
  (refine wpAnyH_ready (rs := [8]) (by kernel_rfl) (by simp) ?_; refine AllReadyH.cons rfl (fun K hK => ?_) AllReadyH.nil; go_simp; (first | (go_at_call 311; with_reducible refine (PA.out _).mono ?_; rintro e w4 ⟨rfl, hy⟩) | (go_at_call 311; with_reducible refine (PB.out _).mono ?_; rintro e w4 ⟨rfl, hy⟩) | (go_at_call 310; refine (PL.out _).mono ?_; rintro e w4 ⟨rfl, rfl⟩)); go_wp2_with fail; (refine hK.out _ _ (by first | assumption | exact Ext.trans (by assumption) hy | exact Res.ext (by assumption) hy | exact ResB.ext (by assumption) hy | exact ResC.ext (by assumption) hy | (go_split_ands; (repeat' apply And.intro) <;> exact Ext.cellOf hy (by assumption))) (fun hHeld => ?_)); clear hK K; (try simp only [Act.put, Ord.a, Ord.b, Ord.c]))
  refine Ord.K 9 6 ?_
  refine wpAnyH_done (by kernel_rfl) ?_ _
  go_wp2
  go_ret
  exact ⟨rfl, hX.trans (by assumption)⟩
end Go.Proofs.YtmlojndkpnhalaaGreat.Hul
