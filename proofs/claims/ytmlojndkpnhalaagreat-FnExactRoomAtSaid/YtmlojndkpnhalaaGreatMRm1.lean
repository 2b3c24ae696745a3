import Derived.Test.YtmlojndkpnhalaaGreatRmw
import Derived.Test.YtmlojndkpnhalaaGreatHul6
import Derived.Test.YtmlojndkpnhalaaGreatMMks
namespace Go.Proofs.YtmlojndkpnhalaaGreat.Rom
open Go.ChangeShapes Go.WideShapes Go.ChangeAt Go.RowKit
open Go.Proofs.YtmlojndkpnhalaaGreat.Num Go.Proofs.YtmlojndkpnhalaaGreat.Kit Go.Proofs.YtmlojndkpnhalaaGreat.Pts Go.Proofs.YtmlojndkpnhalaaGreat.Seg Go.Proofs.YtmlojndkpnhalaaGreat.Wnd Go.Proofs.YtmlojndkpnhalaaGreat.Hul
open Go.Proofs.YtmlojndkpnhalaaGreat.Crs (MkV)
set_option linter.unusedVariables false
set_option linter.unusedSimpArgs false
set_option maxHeartbeats 1000000 in
theorem insideHull_any (N : ByteArray) (X Y S Z a b c d n p q u v m : Int) (w : World) (hX' : Co X) (hY' : Co Y) (ha : Co a) (hb : Co b) (hp : Co p) (hq : Co q) :
    Calls Tryz.prog 283 #[MkV N X Y S Z, Hv a b c d n, Hv p q u v m] w fun e w' => e = .returned (.int .i64 (inN a b p q X Y)) ∧ Ext w w' := by
  unfold Co at hX' hY' ha hb hp hq
  have VA := Lib.hid (fun w => vectorTo_any a b X Y w ha hb hX' hY')
  have VB := Lib.hid (fun w => vectorTo_any p q X Y w hp hq hX' hY')
  have SA := Lib.hid (fun w => show Calls Tryz.prog 261 #[Pt (X - a) (Y - b)] w (fun e w' => e = .returned (.int .i64 (sqD a b X Y)) ∧ Ext w w') from squareLength_any (X - a) (Y - b) w (by omega) (by omega))
  have SB := Lib.hid (fun w => show Calls Tryz.prog 261 #[Pt (X - p) (Y - q)] w (fun e w' => e = .returned (.int .i64 (sqD p q X Y)) ∧ Ext w w') from squareLength_any (X - p) (Y - q) w (by omega) (by omega))
  have PL := Lib.hid (fun w => hullWithLess_any (sqD a b X Y) (sqD p q X Y) w)
  unfold inN
  generalize wwN (sqD a b X Y) (sqD p q X Y) = K at *
  generalize sqD a b X Y = s at *
  generalize sqD p q X Y = t at *
  generalize X - a = i at *
  generalize Y - b = j at *
  generalize X - p = k at *
  generalize Y - q = l at *
  clear ha hb hp hq hX' hY'
  obtain ⟨W0, hW0⟩ : ∃ W0, W0 = ((w.alloc (.cells #[.string N, .int .i64 X, .int .i64 Y, .int .i64 S, .int .i64 Z] 145)).alloc (.cells #[.int .i64 a, .int .i64 b, .int .i64 c, .int .i64 d, .int .i64 n] 62)).alloc (.cells #[.int .i64 p, .int .i64 q, .int .i64 u, .int .i64 v, .int .i64 m] 62) := ⟨_, rfl⟩
  have hX : Ext w W0 := hW0 ▸ ((((Ext.refl w).alloc _).alloc _).alloc _)
  have hs0 : W0.heap.size = w.heap.size + 1 + 1 + 1 := by rw [hW0]; simp
  have e00 : ∀ w', (Ext W0) w' → w'.cell? ⟨w.heap.size, 0, none⟩ = some (.string N) := fun w' h => h.cellOf (by rw [hW0]; exact (((Ext.refl _).alloc _).alloc _).cellOf (boxed 0 rfl (by simp)))
  have e01 : ∀ w', (Ext W0) w' → w'.cell? ⟨w.heap.size, 1, none⟩ = some (.int .i64 X) := fun w' h => h.cellOf (by rw [hW0]; exact (((Ext.refl _).alloc _).alloc _).cellOf (boxed 1 rfl (by simp)))
  have e02 : ∀ w', (Ext W0) w' → w'.cell? ⟨w.heap.size, 2, none⟩ = some (.int .i64 Y) := fun w' h => h.cellOf (by rw [hW0]; exact (((Ext.refl _).alloc _).alloc _).cellOf (boxed 2 rfl (by simp)))
  have e03 : ∀ w', (Ext W0) w' → w'.cell? ⟨w.heap.size, 3, none⟩ = some (.int .i64 S) := fun w' h => h.cellOf (by rw [hW0]; exact (((Ext.refl _).alloc _).alloc _).cellOf (boxed 3 rfl (by simp)))
  have e04 : ∀ w', (Ext W0) w' → w'.cell? ⟨w.heap.size, 4, none⟩ = some (.int .i64 Z) := fun w' h => h.cellOf (by rw [hW0]; exact (((Ext.refl _).alloc _).alloc _).cellOf (boxed 4 rfl (by simp)))
  have e10 : ∀ w', (Ext W0) w' → w'.cell? ⟨w.heap.size + 1, 0, none⟩ = some (.int .i64 a) := fun w' h => h.cellOf (by rw [hW0]; exact ((Ext.refl _).alloc _).cellOf (boxed 0 rfl (by simp)))
  have e11 : ∀ w', (Ext W0) w' → w'.cell? ⟨w.heap.size + 1, 1, none⟩ = some (.int .i64 b) := fun w' h => h.cellOf (by rw [hW0]; exact ((Ext.refl _).alloc _).cellOf (boxed 1 rfl (by simp)))
  have e12 : ∀ w', (Ext W0) w' → w'.cell? ⟨w.heap.size + 1, 2, none⟩ = some (.int .i64 c) := fun w' h => h.cellOf (by rw [hW0]; exact ((Ext.refl _).alloc _).cellOf (boxed 2 rfl (by simp)))
  have e13 : ∀ w', (Ext W0) w' → w'.cell? ⟨w.heap.size + 1, 3, none⟩ = some (.int .i64 d) := fun w' h => h.cellOf (by rw [hW0]; exact ((Ext.refl _).alloc _).cellOf (boxed 3 rfl (by simp)))
  have e14 : ∀ w', (Ext W0) w' → w'.cell? ⟨w.heap.size + 1, 4, none⟩ = some (.int .i64 n) := fun w' h => h.cellOf (by rw [hW0]; exact ((Ext.refl _).alloc _).cellOf (boxed 4 rfl (by simp)))
  have e20 : ∀ w', (Ext W0) w' → w'.cell? ⟨w.heap.size + 1 + 1, 0, none⟩ = some (.int .i64 p) := fun w' h => h.cellOf (by rw [hW0]; exact boxed 0 rfl (by simp))
  have e21 : ∀ w', (Ext W0) w' → w'.cell? ⟨w.heap.size + 1 + 1, 1, none⟩ = some (.int .i64 q) := fun w' h => h.cellOf (by rw [hW0]; exact boxed 1 rfl (by simp))
  have e22 : ∀ w', (Ext W0) w' → w'.cell? ⟨w.heap.size + 1 + 1, 2, none⟩ = some (.int .i64 u) := fun w' h => h.cellOf (by rw [hW0]; exact boxed 2 rfl (by simp))
  have e23 : ∀ w', (Ext W0) w' → w'.cell? ⟨w.heap.size + 1 + 1, 3, none⟩ = some (.int .i64 v) := fun w' h => h.cellOf (by rw [hW0]; exact boxed 3 rfl (by simp))
  have e24 : ∀ w', (Ext W0) w' → w'.cell? ⟨w.heap.size + 1 + 1, 4, none⟩ = some (.int .i64 m) := fun w' h => h.cellOf (by rw [hW0]; exact boxed 4 rfl (by simp))
  have hr := Ext.refl W0
  go_enter Tryz.func283, Tryz.ntmps283
  go_wp2_with fail
  rw [← hW0]
  clear hW0
  refine wp_region_held_drew (S := (fun w' => Ext W0 w')) (by kernel_rfl) (by (try dsimp only); first | go_keep | exact (Ext.refl _).drew | exact Res.new2.drew | exact Res.new4.drew | exact ResB.drew (by assumption) | exact ResC.drew (by assumption) | assumption | exact Ext.drew (by assumption) | exact Res.drew (by assumption)) (fun hHeld => ?_)
  refine Ord.K 0 7 ?_
  refine Ord.K 1 8 ?_
  refine Ord.K 2 9 ?_
  refine Ord.K 3 10 ?_
  refine Ord.K 6 13 ?_
  refine Ord.K 7 14 ?_
  refine Ord.K 8 15 ?_
  refine Ord.K 9 16 ?_
  (refine wpAnyH_ready (rs := [4]) (by kernel_rfl) (by simp) ?_; refine AllReadyH.cons rfl (fun K hK => ?_) AllReadyH.nil; go_simp; (first | (go_at_call 243; with_reducible refine (VA.out _).mono ?_; rintro e w4 ⟨rfl, hy⟩) | (go_at_call 243; with_reducible refine (VB.out _).mono ?_; rintro e w4 ⟨rfl, hy⟩) | (go_at_call 261; with_reducible refine (SA.out _).mono ?_; rintro e w4 ⟨rfl, hy⟩) | (go_at_call 261; with_reducible refine (SB.out _).mono ?_; rintro e w4 ⟨rfl, hy⟩) | (go_at_call 310; refine (PL.out _).mono ?_; rintro e w4 ⟨rfl, rfl⟩)); go_wp2_with fail; (refine hK.out _ _ (by first | assumption | exact Ext.trans (by assumption) hy | exact Res.ext (by assumption) hy | exact ResB.ext (by assumption) hy | exact ResC.ext (by assumption) hy | (go_split_ands; (repeat' apply And.intro) <;> exact Ext.cellOf hy (by assumption))) (fun hHeld => ?_)); clear hK K; (try simp only [Act.put, Ord.a, Ord.b, Ord.c]))
  (refine wpAnyH_ready (rs := [5]) (by kernel_rfl) (by simp) ?_; refine AllReadyH.cons rfl (fun K hK => ?_) AllReadyH.nil; go_simp; (first | (go_at_call 243; with_reducible refine (VA.out _).mono ?_; rintro e w4 ⟨rfl, hy⟩) | (go_at_call 243; with_reducible refine (VB.out _).mono ?_; rintro e w4 ⟨rfl, hy⟩) | (go_at_call 261; with_reducible refine (SA.out _).mono ?_; rintro e w4 ⟨rfl, hy⟩) | (go_at_call 261; with_reducible refine (SB.out _).mono ?_; rintro e w4 ⟨rfl, hy⟩) | (go_at_call 310; refine (PL.out _).mono ?_; rintro e w4 ⟨rfl, rfl⟩)); go_wp2_with fail; (refine hK.out _ _ (by first | assumption | exact Ext.trans (by assumption) hy | exact Res.ext (by assumption) hy | exact ResB.ext (by assumption) hy | exact ResC.ext (by assumption) hy | (go_split_ands; (repeat' apply And.intro) <;> exact Ext.cellOf hy (by assumption))) (fun hHeld => ?_)); clear hK K; (try simp only [Act.put, Ord.a, Ord.b, Ord.c]))
  (refine wpAnyH_ready (rs := [10]) (by kernel_rfl) (by simp) ?_; refine AllReadyH.cons rfl (fun K hK => ?_) AllReadyH.nil; go_simp; (first | (go_at_call 243; with_reducible refine (VA.out _).mono ?_; rintro e w4 ⟨rfl, hy⟩) | (go_at_call 243; with_reducible refine (VB.out _).mono ?_; rintro e w4 ⟨rfl, hy⟩) | (go_at_call 261; with_reducible refine (SA.out _).mono ?_; rintro e w4 ⟨rfl, hy⟩) | (go_at_call 261; with_reducible refine (SB.out _).mono ?_; rintro e w4 ⟨rfl, hy⟩) | (go_at_call 310; refine (PL.out _).mono ?_; rintro e w4 ⟨rfl, rfl⟩)); go_wp2_with fail; (refine hK.out _ _ (by first | assumption | exact Ext.trans (by assumption) hy | exact Res.ext (by assumption) hy | exact ResB.ext (by assumption) hy | exact ResC.ext (by assumption) hy | (go_split_ands; (repeat' apply And.intro) <;> exact Ext.cellOf hy (by assumption))) (fun hHeld => ?_)); clear hK K; (try simp only [Act.put, Ord.a, Ord.b, Ord.c]))
  (refine wpAnyH_ready (rs := [11]) (by kernel_rfl) (by simp) ?_; refine AllReadyH.cons rfl (fun K hK => ?_) AllReadyH.nil; go_simp; (first | (go_at_call 243; with_reducible refine (VA.out _).mono ?_; rintro e w4 ⟨rfl, hy⟩) | (go_at_call 243; with_reducible refine (VB.out _).mono ?_; rintro e w4 ⟨rfl, hy⟩) | (go_at_call 261; with_reducible refine (SA.out _).mono ?_; rintro e w4 ⟨rfl, hy⟩) | (go_at_call 261; with_reducible refine (SB.out _).mono ?_; rintro e w4 ⟨rfl, hy⟩) | (go_at_call 310; refine (PL.out _).mono ?_; rintro e w4 ⟨rfl, rfl⟩)); go_wp2_with fail; (refine hK.out _ _ (by first | assumption | exact Ext.trans (by assumption) hy | exact Res.ext (by assumption) hy | exact ResB.ext (by assumption) hy | exact ResC.ext (by assumption) hy | (go_split_ands; (repeat' apply And.intro) <;> exact Ext.cellOf hy (by assumption))) (fun hHeld => ?_)); clear hK K; (try simp only [Act.put, Ord.a, Ord.b, Ord.c]))
  (refine wpAnyH_ready (rs := [12]) (by kernel_rfl) (by simp) ?_; refine AllReadyH.cons rfl (fun K hK => ?_) AllReadyH.nil; go_simp; (first | (go_at_call 243; with_reducible refine (VA.out _).mono ?_; rintro e w4 ⟨rfl, hy⟩) | (go_at_call 243; with_reducible refine (VB.out _).mono ?_; rintro e w4 ⟨rfl, hy⟩) | (go_at_call 261; with_reducible refine (SA.out _).mono ?_; rintro e w4 ⟨rfl, hy⟩) | (go_at_call 261; with_reducible refine (SB.out _).mono ?_; rintro e w4 ⟨rfl, hy⟩) | (go_at_call 310; refine (PL.out _).mono ?_; rintro e w4 ⟨rfl, rfl⟩)); go_wp2_with fail; (refine hK.out _ _ (by first | assumption | exact Ext.trans (by assumption) hy | exact Res.ext (by assumption) hy | exact ResB.ext (by assumption) hy | exact ResC.ext (by assumption) hy | (go_split_ands; (repeat' apply And.intro) <;> exact Ext.cellOf hy (by assumption))) (fun hHeld => ?_)); clear hK K; (try simp only [Act.put, Ord.a, Ord.b, Ord.c]))
  refine Ord.K 13 6 ?_
  refine wpAnyH_done (by kernel_rfl) ?_ _
  go_wp2
  go_ret
  exact ⟨rfl, hX.trans (by assumption)⟩
set_option maxHeartbeats 1000000 in
theorem insideS_any (X Y a b c d n p q u v m : Int) (w : World) (hX' : Co X) (hY' : Co Y) (ha : Co a) (hb : Co b) (hp : Co p) (hq : Co q) :
    Calls Tryz.prog 234 #[Pt X Y, Hv a b c d n, Hv p q u v m] w fun e w' => e = .returned (.int .i64 (inN a b p q X Y)) ∧ Ext w w' := by
  unfold Co at hX' hY' ha hb hp hq
  have SA := Lib.hid (fun w => square_any a b X Y w ha hb hX' hY')
  have SB := Lib.hid (fun w => square_any p q X Y w hp hq hX' hY')
  have key : sqD a b X Y < sqD p q X Y ∨ (¬ sqD a b X Y < sqD p q X Y ∧ sqD p q X Y < sqD a b X Y) ∨ (¬ sqD a b X Y < sqD p q X Y ∧ ¬ sqD p q X Y < sqD a b X Y) := by omega
  unfold inN
  generalize sqD a b X Y = s at *
  generalize sqD p q X Y = t at *
  clear ha hb hp hq hX' hY'
  obtain ⟨W0, hW0⟩ : ∃ W0, W0 = ((w.alloc (.cells #[.int .i64 X, .int .i64 Y] 25)).alloc (.cells #[.int .i64 a, .int .i64 b, .int .i64 c, .int .i64 d, .int .i64 n] 62)).alloc (.cells #[.int .i64 p, .int .i64 q, .int .i64 u, .int .i64 v, .int .i64 m] 62) := ⟨_, rfl⟩
  have hX : Ext w W0 := hW0 ▸ ((((Ext.refl w).alloc _).alloc _).alloc _)
  have hs0 : W0.heap.size = w.heap.size + 1 + 1 + 1 := by rw [hW0]; simp
  have e00 : ∀ w', (Ext W0) w' → w'.cell? ⟨w.heap.size, 0, none⟩ = some (.int .i64 X) := fun w' h => h.cellOf (by rw [hW0]; exact (((Ext.refl _).alloc _).alloc _).cellOf (boxed 0 rfl (by simp)))
  have e01 : ∀ w', (Ext W0) w' → w'.cell? ⟨w.heap.size, 1, none⟩ = some (.int .i64 Y) := fun w' h => h.cellOf (by rw [hW0]; exact (((Ext.refl _).alloc _).alloc _).cellOf (boxed 1 rfl (by simp)))
  have e10 : ∀ w', (Ext W0) w' → w'.cell? ⟨w.heap.size + 1, 0, none⟩ = some (.int .i64 a) := fun w' h => h.cellOf (by rw [hW0]; exact ((Ext.refl _).alloc _).cellOf (boxed 0 rfl (by simp)))
  have e11 : ∀ w', (Ext W0) w' → w'.cell? ⟨w.heap.size + 1, 1, none⟩ = some (.int .i64 b) := fun w' h => h.cellOf (by rw [hW0]; exact ((Ext.refl _).alloc _).cellOf (boxed 1 rfl (by simp)))
  have e12 : ∀ w', (Ext W0) w' → w'.cell? ⟨w.heap.size + 1, 2, none⟩ = some (.int .i64 c) := fun w' h => h.cellOf (by rw [hW0]; exact ((Ext.refl _).alloc _).cellOf (boxed 2 rfl (by simp)))
  have e13 : ∀ w', (Ext W0) w' → w'.cell? ⟨w.heap.size + 1, 3, none⟩ = some (.int .i64 d) := fun w' h => h.cellOf (by rw [hW0]; exact ((Ext.refl _).alloc _).cellOf (boxed 3 rfl (by simp)))
  have e14 : ∀ w', (Ext W0) w' → w'.cell? ⟨w.heap.size + 1, 4, none⟩ = some (.int .i64 n) := fun w' h => h.cellOf (by rw [hW0]; exact ((Ext.refl _).alloc _).cellOf (boxed 4 rfl (by simp)))
  have e20 : ∀ w', (Ext W0) w' → w'.cell? ⟨w.heap.size + 1 + 1, 0, none⟩ = some (.int .i64 p) := fun w' h => h.cellOf (by rw [hW0]; exact boxed 0 rfl (by simp))
  have e21 : ∀ w', (Ext W0) w' → w'.cell? ⟨w.heap.size + 1 + 1, 1, none⟩ = some (.int .i64 q) := fun w' h => h.cellOf (by rw [hW0]; exact boxed 1 rfl (by simp))
  have e22 : ∀ w', (Ext W0) w' → w'.cell? ⟨w.heap.size + 1 + 1, 2, none⟩ = some (.int .i64 u) := fun w' h => h.cellOf (by rw [hW0]; exact boxed 2 rfl (by simp))
  have e23 : ∀ w', (Ext W0) w' → w'.cell? ⟨w.heap.size + 1 + 1, 3, none⟩ = some (.int .i64 v) := fun w' h => h.cellOf (by rw [hW0]; exact boxed 3 rfl (by simp))
  have e24 : ∀ w', (Ext W0) w' → w'.cell? ⟨w.heap.size + 1 + 1, 4, none⟩ = some (.int .i64 m) := fun w' h => h.cellOf (by rw [hW0]; exact boxed 4 rfl (by simp))
  have hr := Ext.refl W0
  go_enter Tryz.func234, Tryz.ntmps234
  go_wp2_with fail
  rw [← hW0]
  clear hW0
  rcases key with h4 | ⟨h4, h5⟩ | ⟨h4, h5⟩
  all_goals
    have HV := Lib.hid (show wwN s t = _ from by first | exact ww_lt h4 | exact ww_gt h5 | exact ww_eq (by omega) (by omega))
    refine wp_region_held_drew (S := (fun w' => Ext W0 w')) (by kernel_rfl) (by (try dsimp only); first | go_keep | exact (Ext.refl _).drew | exact Res.new2.drew | exact Res.new4.drew | exact ResB.drew (by assumption) | exact ResC.drew (by assumption) | assumption | exact Ext.drew (by assumption) | exact Res.drew (by assumption)) (fun hHeld => ?_)
    refine Ord.K 0 9 ?_
    refine Ord.K 1 10 ?_
    refine Ord.K 2 11 ?_
    refine Ord.K 4 13 ?_
    refine Ord.K 5 14 ?_
    refine Ord.K 6 15 ?_
    (refine wpAnyH_ready (rs := [3]) (by kernel_rfl) (by simp) ?_; refine AllReadyH.cons rfl (fun K hK => ?_) AllReadyH.nil; go_simp; (first | (go_at_call 205; with_reducible refine (SA.out _).mono ?_; rintro e w4 ⟨rfl, hy⟩) | (go_at_call 205; with_reducible refine (SB.out _).mono ?_; rintro e w4 ⟨rfl, hy⟩)); go_wp2_with fail; (refine hK.out _ _ (by first | assumption | exact Ext.trans (by assumption) hy | exact Res.ext (by assumption) hy | exact ResB.ext (by assumption) hy | exact ResC.ext (by assumption) hy | (go_split_ands; (repeat' apply And.intro) <;> exact Ext.cellOf hy (by assumption))) (fun hHeld => ?_)); clear hK K; (try simp only [Act.put, Ord.a, Ord.b, Ord.c]))
    (refine wpAnyH_ready (rs := [7]) (by kernel_rfl) (by simp) ?_; refine AllReadyH.cons rfl (fun K hK => ?_) AllReadyH.nil; go_simp; (first | (go_at_call 205; with_reducible refine (SA.out _).mono ?_; rintro e w4 ⟨rfl, hy⟩) | (go_at_call 205; with_reducible refine (SB.out _).mono ?_; rintro e w4 ⟨rfl, hy⟩)); go_wp2_with fail; (refine hK.out _ _ (by first | assumption | exact Ext.trans (by assumption) hy | exact Res.ext (by assumption) hy | exact ResB.ext (by assumption) hy | exact ResC.ext (by assumption) hy | (go_split_ands; (repeat' apply And.intro) <;> exact Ext.cellOf hy (by assumption))) (fun hHeld => ?_)); clear hK K; (try simp only [Act.put, Ord.a, Ord.b, Ord.c]))
    refine Ord.K 8 7 ?_
    refine Ord.K 9 8 ?_
    refine wpAnyH_done (by kernel_rfl) ?_ _
    go_wp2
    go_ret
    exact ⟨ret_int HV.out, hX.trans (by assumption)⟩
end Go.Proofs.YtmlojndkpnhalaaGreat.Rom
namespace Go.Proofs.YtmlojndkpnhalaaGreat.Rom
open Go.ChangeShapes Go.WideShapes Go.ChangeAt Go.RowKit
open Go.Proofs.YtmlojndkpnhalaaGreat.Num Go.Proofs.YtmlojndkpnhalaaGreat.Kit Go.Proofs.YtmlojndkpnhalaaGreat.Pts Go.Proofs.YtmlojndkpnhalaaGreat.Seg Go.Proofs.YtmlojndkpnhalaaGreat.Wnd Go.Proofs.YtmlojndkpnhalaaGreat.Hul
open Go.Proofs.YtmlojndkpnhalaaGreat.Crs (MkV)
set_option linter.unusedVariables false
set_option linter.unusedSimpArgs false
theorem bt_no1 {i j e f : Int} (h : (e == 1) = false) : btB i j e f = false := by unfold btB; rw [h]; rfl
theorem bt_no2 {i j e f : Int} (h : (f == 1) = false) : btB i j e f = false := by unfold btB; rw [h, Bool.false_and, Bool.and_false]
theorem bt_yes {i j e f : Int} (h : (e == 1) = true) (g : (f == 1) = true) : btB i j e f = opB i j := by unfold btB; rw [h, g]; rfl
set_option maxHeartbeats 2000000 in
theorem beating_any (x y a b c d n p q u v m : Int) (w : World) (hw : wdB x y = true) (h : hlB a b c d n = true) (g : hlB p q u v m = true) :
    Calls Tryz.prog 235 #[Pt x y, Hv a b c d n, Hv p q u v m] w fun e w' => e = .returned (.bool (rbT x y c d u v)) ∧ Ext w w' := by
  obtain ⟨x1, y1, z1⟩ := wdB_yes hw
  obtain ⟨⟨ha, hb⟩, ⟨hc, hd, hn⟩, _⟩ := hlB_yes h
  obtain ⟨⟨hp, hq⟩, ⟨hu, hv, ho⟩, _⟩ := hlB_yes g
  have S1 := Lib.hid (fun w => sailOf_any x y c d w x1 y1 hc hd z1 hn)
  have S2 := Lib.hid (fun w => sailOf_any x y u v w x1 y1 hu hv z1 ho)
  have TA := Lib.hid (fun k w (h : WB w k x y) => tell_any k x y c d w h x1 y1 hc hd)
  have TB := Lib.hid (fun k w (h : WB w k x y) => tell_any k x y u v w h x1 y1 hu hv)
  have PO := Lib.hid (fun w => opposite_any (tkN (c * y - d * x)) (tkN (u * y - v * x)) w)
  unfold rbT
  generalize slN (c * y - d * x) (c * x + d * y) = E at *
  generalize slN (u * y - v * x) (u * x + v * y) = F at *
  generalize tkN (c * y - d * x) = i at *
  generalize tkN (u * y - v * x) = j at *
  clear x1 y1 z1 ha hb hc hd hn hp hq hu hv ho hw h g
  have H1 := Lib.hid (fun h => bt_no1 (i := i) (j := j) (e := E) (f := F) h)
  have H2 := Lib.hid (fun h => bt_no2 (i := i) (j := j) (e := E) (f := F) h)
  have H3 := Lib.hid (fun h g => bt_yes (i := i) (j := j) (e := E) (f := F) h g)
  obtain ⟨W0, hW0⟩ : ∃ W0, W0 = ((w.alloc (.cells #[.int .i64 x, .int .i64 y] 54)).alloc (.cells #[.int .i64 a, .int .i64 b, .int .i64 c, .int .i64 d, .int .i64 n] 62)).alloc (.cells #[.int .i64 p, .int .i64 q, .int .i64 u, .int .i64 v, .int .i64 m] 62) := ⟨_, rfl⟩
  have hX : Ext w W0 := hW0 ▸ ((((Ext.refl w).alloc _).alloc _).alloc _)
  have hs0 : W0.heap.size = w.heap.size + 1 + 1 + 1 := by rw [hW0]; simp
  have e00 : ∀ w', (Ext W0) w' → w'.cell? ⟨w.heap.size, 0, none⟩ = some (.int .i64 x) := fun w' h => h.cellOf (by rw [hW0]; exact (((Ext.refl _).alloc _).alloc _).cellOf (boxed 0 rfl (by simp)))
  have e01 : ∀ w', (Ext W0) w' → w'.cell? ⟨w.heap.size, 1, none⟩ = some (.int .i64 y) := fun w' h => h.cellOf (by rw [hW0]; exact (((Ext.refl _).alloc _).alloc _).cellOf (boxed 1 rfl (by simp)))
  have e10 : ∀ w', (Ext W0) w' → w'.cell? ⟨w.heap.size + 1, 0, none⟩ = some (.int .i64 a) := fun w' h => h.cellOf (by rw [hW0]; exact ((Ext.refl _).alloc _).cellOf (boxed 0 rfl (by simp)))
  have e11 : ∀ w', (Ext W0) w' → w'.cell? ⟨w.heap.size + 1, 1, none⟩ = some (.int .i64 b) := fun w' h => h.cellOf (by rw [hW0]; exact ((Ext.refl _).alloc _).cellOf (boxed 1 rfl (by simp)))
  have e12 : ∀ w', (Ext W0) w' → w'.cell? ⟨w.heap.size + 1, 2, none⟩ = some (.int .i64 c) := fun w' h => h.cellOf (by rw [hW0]; exact ((Ext.refl _).alloc _).cellOf (boxed 2 rfl (by simp)))
  have e13 : ∀ w', (Ext W0) w' → w'.cell? ⟨w.heap.size + 1, 3, none⟩ = some (.int .i64 d) := fun w' h => h.cellOf (by rw [hW0]; exact ((Ext.refl _).alloc _).cellOf (boxed 3 rfl (by simp)))
  have e14 : ∀ w', (Ext W0) w' → w'.cell? ⟨w.heap.size + 1, 4, none⟩ = some (.int .i64 n) := fun w' h => h.cellOf (by rw [hW0]; exact ((Ext.refl _).alloc _).cellOf (boxed 4 rfl (by simp)))
  have e20 : ∀ w', (Ext W0) w' → w'.cell? ⟨w.heap.size + 1 + 1, 0, none⟩ = some (.int .i64 p) := fun w' h => h.cellOf (by rw [hW0]; exact boxed 0 rfl (by simp))
  have e21 : ∀ w', (Ext W0) w' → w'.cell? ⟨w.heap.size + 1 + 1, 1, none⟩ = some (.int .i64 q) := fun w' h => h.cellOf (by rw [hW0]; exact boxed 1 rfl (by simp))
  have e22 : ∀ w', (Ext W0) w' → w'.cell? ⟨w.heap.size + 1 + 1, 2, none⟩ = some (.int .i64 u) := fun w' h => h.cellOf (by rw [hW0]; exact boxed 2 rfl (by simp))
  have e23 : ∀ w', (Ext W0) w' → w'.cell? ⟨w.heap.size + 1 + 1, 3, none⟩ = some (.int .i64 v) := fun w' h => h.cellOf (by rw [hW0]; exact boxed 3 rfl (by simp))
  have e24 : ∀ w', (Ext W0) w' → w'.cell? ⟨w.heap.size + 1 + 1, 4, none⟩ = some (.int .i64 m) := fun w' h => h.cellOf (by rw [hW0]; exact boxed 4 rfl (by simp))
  go_enter Tryz.func235, Tryz.ntmps235
  go_wp2_with fail
  rw [← hW0]
  clear hW0
  refine (teller_any _ _ _).mono ?_
  rintro e w1 ⟨k, rfl, hk, hb, hz⟩
  replace hz : Ext W0 w1 := hz
  have TA2 := Lib.hid (fun w (h : Ext w1 w) => TA.out k w (hb.ext h))
  have TB2 := Lib.hid (fun w (h : Ext w1 w) => TB.out k w (hb.ext h))
  clear TA TB hb hk
  replace e00 : ∀ w', Ext w1 w' → w'.cell? ⟨w.heap.size, 0, none⟩ = some (.int .i64 x) := fun w' h => e00 w' (hz.trans h)
  replace e01 : ∀ w', Ext w1 w' → w'.cell? ⟨w.heap.size, 1, none⟩ = some (.int .i64 y) := fun w' h => e01 w' (hz.trans h)
  replace e12 : ∀ w', Ext w1 w' → w'.cell? ⟨w.heap.size + 1, 2, none⟩ = some (.int .i64 c) := fun w' h => e12 w' (hz.trans h)
  replace e13 : ∀ w', Ext w1 w' → w'.cell? ⟨w.heap.size + 1, 3, none⟩ = some (.int .i64 d) := fun w' h => e13 w' (hz.trans h)
  replace e22 : ∀ w', Ext w1 w' → w'.cell? ⟨w.heap.size + 1 + 1, 2, none⟩ = some (.int .i64 u) := fun w' h => e22 w' (hz.trans h)
  replace e23 : ∀ w', Ext w1 w' → w'.cell? ⟨w.heap.size + 1 + 1, 3, none⟩ = some (.int .i64 v) := fun w' h => e23 w' (hz.trans h)
  clear e10 e11 e14 e20 e21 e24
  have hr := Ext.refl w1
  cases h1 : (E == 1)
  · have H := Lib.hid (H1.out h1)
    go_wp2_with fail
    refine wp_region_held_drew (S := (fun w' => Ext w1 w')) (by kernel_rfl) (by (try dsimp only); first | go_keep | exact (Ext.refl _).drew | exact Res.new2.drew | exact Res.new4.drew | exact ResB.drew (by assumption) | exact ResC.drew (by assumption) | assumption | exact Ext.drew (by assumption) | exact Res.drew (by assumption)) (fun hHeld => ?_)
    refine Ord.K 0 10 ?_
    refine Ord.K 1 11 ?_
    refine Ord.K 2 12 ?_
    (refine wpAnyH_ready (rs := [3]) (by kernel_rfl) (by simp) ?_; refine AllReadyH.cons rfl (fun K hK => ?_) AllReadyH.nil; go_simp; (first | (go_at_call 280; with_reducible refine (S1.out _).mono ?_; rintro e w4 ⟨rfl, hy⟩)); go_wp2_with fail; (refine hK.out _ _ (by first | assumption | exact Ext.trans (by assumption) hy | exact Res.ext (by assumption) hy | exact ResB.ext (by assumption) hy | exact ResC.ext (by assumption) hy | (go_split_ands; (repeat' apply And.intro) <;> exact Ext.cellOf hy (by assumption))) (fun hHeld => ?_)); clear hK K; (try simp only [Act.put, Ord.a, Ord.b, Ord.c]))
    refine Ord.K 4 14 ?_
    refine Ord.K 5 15 ?_
    (first | (refine Ord.s 6 16 ?_ ?_; rfl; (try simp only [Act.put, Ord.a, Ord.b, Ord.c])) | refine Ord.K 6 16 ?_)
    (first | (refine Ord.s 7 17 ?_ ?_; rfl; (try simp only [Act.put, Ord.a, Ord.b, Ord.c])) | refine Ord.K 7 17 ?_)
    (first | (refine Ord.s 8 18 ?_ ?_; rfl; (try simp only [Act.put, Ord.a, Ord.b, Ord.c])) | refine Ord.K 8 18 ?_)
    (first | (refine Ord.s 9 19 ?_ ?_; rfl; (try simp only [Act.put, Ord.a, Ord.b, Ord.c])) | (refine wpAnyH_ready (rs := [9]) (by kernel_rfl) (by simp) ?_; refine AllReadyH.cons rfl (fun K hK => ?_) AllReadyH.nil; go_simp; (first | (go_at_call 280; with_reducible refine (S1.out _).mono ?_; rintro e w4 ⟨rfl, hy⟩)); go_wp2_with fail; (refine hK.out _ _ (by first | assumption | exact Ext.trans (by assumption) hy | exact Res.ext (by assumption) hy | exact ResB.ext (by assumption) hy | exact ResC.ext (by assumption) hy | (go_split_ands; (repeat' apply And.intro) <;> exact Ext.cellOf hy (by assumption))) (fun hHeld => ?_)); clear hK K; (try simp only [Act.put, Ord.a, Ord.b, Ord.c])))
    (first | (refine Ord.s 10 20 ?_ ?_; rfl; (try simp only [Act.put, Ord.a, Ord.b, Ord.c])) | refine Ord.K 10 20 ?_)
    refine Ord.K 11 21 ?_
    refine Ord.K 12 22 ?_
    (first | (refine Ord.s 13 23 ?_ ?_; rfl; (try simp only [Act.put, Ord.a, Ord.b, Ord.c])) | refine Ord.K 13 23 ?_)
    (first | (refine Ord.s 14 24 ?_ ?_; rfl; (try simp only [Act.put, Ord.a, Ord.b, Ord.c])) | refine Ord.K 14 24 ?_)
    (first | (refine Ord.s 15 25 ?_ ?_; rfl; (try simp only [Act.put, Ord.a, Ord.b, Ord.c])) | refine Ord.K 15 25 ?_)
    (first | (refine Ord.s 17 27 ?_ ?_; rfl; (try simp only [Act.put, Ord.a, Ord.b, Ord.c])) | refine Ord.K 17 27 ?_)
    (first | (refine Ord.s 18 28 ?_ ?_; rfl; (try simp only [Act.put, Ord.a, Ord.b, Ord.c])) | refine Ord.K 18 28 ?_)
    (first | (refine Ord.s 19 29 ?_ ?_; rfl; (try simp only [Act.put, Ord.a, Ord.b, Ord.c])) | refine Ord.K 19 29 ?_)
    (first | (refine Ord.s 16 26 ?_ ?_; rfl; (try simp only [Act.put, Ord.a, Ord.b, Ord.c])) | (refine wpAnyH_ready (rs := [16]) (by kernel_rfl) (by simp) ?_; refine AllReadyH.cons rfl (fun K hK => ?_) AllReadyH.nil; go_simp; (first | (go_at_call 280; with_reducible refine (S1.out _).mono ?_; rintro e w4 ⟨rfl, hy⟩)); go_wp2_with fail; (refine hK.out _ _ (by first | assumption | exact Ext.trans (by assumption) hy | exact Res.ext (by assumption) hy | exact ResB.ext (by assumption) hy | exact ResC.ext (by assumption) hy | (go_split_ands; (repeat' apply And.intro) <;> exact Ext.cellOf hy (by assumption))) (fun hHeld => ?_)); clear hK K; (try simp only [Act.put, Ord.a, Ord.b, Ord.c])))
    (first | (refine Ord.s 20 30 ?_ ?_; rfl; (try simp only [Act.put, Ord.a, Ord.b, Ord.c])) | (refine wpAnyH_ready (rs := [20]) (by kernel_rfl) (by simp) ?_; refine AllReadyH.cons rfl (fun K hK => ?_) AllReadyH.nil; go_simp; (first | (go_at_call 280; with_reducible refine (S1.out _).mono ?_; rintro e w4 ⟨rfl, hy⟩)); go_wp2_with fail; (refine hK.out _ _ (by first | assumption | exact Ext.trans (by assumption) hy | exact Res.ext (by assumption) hy | exact ResB.ext (by assumption) hy | exact ResC.ext (by assumption) hy | (go_split_ands; (repeat' apply And.intro) <;> exact Ext.cellOf hy (by assumption))) (fun hHeld => ?_)); clear hK K; (try simp only [Act.put, Ord.a, Ord.b, Ord.c])))
    (first | (refine Ord.s 21 31 ?_ ?_; rfl; (try simp only [Act.put, Ord.a, Ord.b, Ord.c])) | (refine wpAnyH_ready (rs := [21]) (by kernel_rfl) (by simp) ?_; refine AllReadyH.cons rfl (fun K hK => ?_) AllReadyH.nil; go_simp; (first | (go_at_call 280; with_reducible refine (S1.out _).mono ?_; rintro e w4 ⟨rfl, hy⟩)); go_wp2_with fail; (refine hK.out _ _ (by first | assumption | exact Ext.trans (by assumption) hy | exact Res.ext (by assumption) hy | exact ResB.ext (by assumption) hy | exact ResC.ext (by assumption) hy | (go_split_ands; (repeat' apply And.intro) <;> exact Ext.cellOf hy (by assumption))) (fun hHeld => ?_)); clear hK K; (try simp only [Act.put, Ord.a, Ord.b, Ord.c])))
    refine Ord.K 22 32 ?_
    refine Ord.K 23 6 ?_
    refine wpAnyH_done (by kernel_rfl) ?_ _
    go_wp2
    go_ret
    exact ⟨ret_bool H.out, hX.trans (hz.trans (by assumption))⟩
  cases h2 : (F == 1)
  · have H := Lib.hid (H2.out h2)
    go_wp2_with fail
    refine wp_region_held_drew (S := (fun w' => Ext w1 w')) (by kernel_rfl) (by (try dsimp only); first | go_keep | exact (Ext.refl _).drew | exact Res.new2.drew | exact Res.new4.drew | exact ResB.drew (by assumption) | exact ResC.drew (by assumption) | assumption | exact Ext.drew (by assumption) | exact Res.drew (by assumption)) (fun hHeld => ?_)
    refine Ord.K 0 10 ?_
    refine Ord.K 1 11 ?_
    refine Ord.K 2 12 ?_
    (refine wpAnyH_ready (rs := [3]) (by kernel_rfl) (by simp) ?_; refine AllReadyH.cons rfl (fun K hK => ?_) AllReadyH.nil; go_simp; (first | (go_at_call 280; with_reducible refine (S1.out _).mono ?_; rintro e w4 ⟨rfl, hy⟩) | (go_at_call 280; with_reducible refine (S2.out _).mono ?_; rintro e w5 ⟨rfl, hy⟩)); go_wp2_with fail; (refine hK.out _ _ (by first | assumption | exact Ext.trans (by assumption) hy | exact Res.ext (by assumption) hy | exact ResB.ext (by assumption) hy | exact ResC.ext (by assumption) hy | (go_split_ands; (repeat' apply And.intro) <;> exact Ext.cellOf hy (by assumption))) (fun hHeld => ?_)); clear hK K; (try simp only [Act.put, Ord.a, Ord.b, Ord.c]))
    refine Ord.K 4 14 ?_
    refine Ord.K 5 15 ?_
    (first | (refine Ord.s 6 16 ?_ ?_; rfl; (try simp only [Act.put, Ord.a, Ord.b, Ord.c])) | refine Ord.K 6 16 ?_)
    (first | (refine Ord.s 7 17 ?_ ?_; rfl; (try simp only [Act.put, Ord.a, Ord.b, Ord.c])) | refine Ord.K 7 17 ?_)
    (first | (refine Ord.s 8 18 ?_ ?_; rfl; (try simp only [Act.put, Ord.a, Ord.b, Ord.c])) | refine Ord.K 8 18 ?_)
    (first | (refine Ord.s 9 19 ?_ ?_; rfl; (try simp only [Act.put, Ord.a, Ord.b, Ord.c])) | (refine wpAnyH_ready (rs := [9]) (by kernel_rfl) (by simp) ?_; refine AllReadyH.cons rfl (fun K hK => ?_) AllReadyH.nil; go_simp; (first | (go_at_call 280; with_reducible refine (S1.out _).mono ?_; rintro e w4 ⟨rfl, hy⟩) | (go_at_call 280; with_reducible refine (S2.out _).mono ?_; rintro e w5 ⟨rfl, hy⟩)); go_wp2_with fail; (refine hK.out _ _ (by first | assumption | exact Ext.trans (by assumption) hy | exact Res.ext (by assumption) hy | exact ResB.ext (by assumption) hy | exact ResC.ext (by assumption) hy | (go_split_ands; (repeat' apply And.intro) <;> exact Ext.cellOf hy (by assumption))) (fun hHeld => ?_)); clear hK K; (try simp only [Act.put, Ord.a, Ord.b, Ord.c])))
    (first | (refine Ord.s 10 20 ?_ ?_; rfl; (try simp only [Act.put, Ord.a, Ord.b, Ord.c])) | refine Ord.K 10 20 ?_)
    refine Ord.K 11 21 ?_
    refine Ord.K 12 22 ?_
    (first | (refine Ord.s 13 23 ?_ ?_; rfl; (try simp only [Act.put, Ord.a, Ord.b, Ord.c])) | refine Ord.K 13 23 ?_)
    (first | (refine Ord.s 14 24 ?_ ?_; rfl; (try simp only [Act.put, Ord.a, Ord.b, Ord.c])) | refine Ord.K 14 24 ?_)
    (first | (refine Ord.s 15 25 ?_ ?_; rfl; (try simp only [Act.put, Ord.a, Ord.b, Ord.c])) | refine Ord.K 15 25 ?_)
    (first | (refine Ord.s 17 27 ?_ ?_; rfl; (try simp only [Act.put, Ord.a, Ord.b, Ord.c])) | refine Ord.K 17 27 ?_)
    (first | (refine Ord.s 18 28 ?_ ?_; rfl; (try simp only [Act.put, Ord.a, Ord.b, Ord.c])) | refine Ord.K 18 28 ?_)
    (first | (refine Ord.s 19 29 ?_ ?_; rfl; (try simp only [Act.put, Ord.a, Ord.b, Ord.c])) | refine Ord.K 19 29 ?_)
    (first | (refine Ord.s 16 26 ?_ ?_; rfl; (try simp only [Act.put, Ord.a, Ord.b, Ord.c])) | (refine wpAnyH_ready (rs := [16]) (by kernel_rfl) (by simp) ?_; refine AllReadyH.cons rfl (fun K hK => ?_) AllReadyH.nil; go_simp; (first | (go_at_call 280; with_reducible refine (S1.out _).mono ?_; rintro e w4 ⟨rfl, hy⟩) | (go_at_call 280; with_reducible refine (S2.out _).mono ?_; rintro e w5 ⟨rfl, hy⟩)); go_wp2_with fail; (refine hK.out _ _ (by first | assumption | exact Ext.trans (by assumption) hy | exact Res.ext (by assumption) hy | exact ResB.ext (by assumption) hy | exact ResC.ext (by assumption) hy | (go_split_ands; (repeat' apply And.intro) <;> exact Ext.cellOf hy (by assumption))) (fun hHeld => ?_)); clear hK K; (try simp only [Act.put, Ord.a, Ord.b, Ord.c])))
    (first | (refine Ord.s 20 30 ?_ ?_; rfl; (try simp only [Act.put, Ord.a, Ord.b, Ord.c])) | (refine wpAnyH_ready (rs := [20]) (by kernel_rfl) (by simp) ?_; refine AllReadyH.cons rfl (fun K hK => ?_) AllReadyH.nil; go_simp; (first | (go_at_call 280; with_reducible refine (S1.out _).mono ?_; rintro e w4 ⟨rfl, hy⟩) | (go_at_call 280; with_reducible refine (S2.out _).mono ?_; rintro e w5 ⟨rfl, hy⟩)); go_wp2_with fail; (refine hK.out _ _ (by first | assumption | exact Ext.trans (by assumption) hy | exact Res.ext (by assumption) hy | exact ResB.ext (by assumption) hy | exact ResC.ext (by assumption) hy | (go_split_ands; (repeat' apply And.intro) <;> exact Ext.cellOf hy (by assumption))) (fun hHeld => ?_)); clear hK K; (try simp only [Act.put, Ord.a, Ord.b, Ord.c])))
    (first | (refine Ord.s 21 31 ?_ ?_; rfl; (try simp only [Act.put, Ord.a, Ord.b, Ord.c])) | (refine wpAnyH_ready (rs := [21]) (by kernel_rfl) (by simp) ?_; refine AllReadyH.cons rfl (fun K hK => ?_) AllReadyH.nil; go_simp; (first | (go_at_call 280; with_reducible refine (S1.out _).mono ?_; rintro e w4 ⟨rfl, hy⟩) | (go_at_call 280; with_reducible refine (S2.out _).mono ?_; rintro e w5 ⟨rfl, hy⟩)); go_wp2_with fail; (refine hK.out _ _ (by first | assumption | exact Ext.trans (by assumption) hy | exact Res.ext (by assumption) hy | exact ResB.ext (by assumption) hy | exact ResC.ext (by assumption) hy | (go_split_ands; (repeat' apply And.intro) <;> exact Ext.cellOf hy (by assumption))) (fun hHeld => ?_)); clear hK K; (try simp only [Act.put, Ord.a, Ord.b, Ord.c])))
    refine Ord.K 22 32 ?_
    refine Ord.K 23 6 ?_
    refine wpAnyH_done (by kernel_rfl) ?_ _
    go_wp2
    go_ret
    exact ⟨ret_bool H.out, hX.trans (hz.trans (by assumption))⟩
  · have H := Lib.hid (H3.out h1 h2)
    generalize opB i j = O at *
    go_wp2_with fail
    refine wp_region_held_drew (S := (fun w' => Ext w1 w')) (by kernel_rfl) (by (try dsimp only); first | go_keep | exact (Ext.refl _).drew | exact Res.new2.drew | exact Res.new4.drew | exact ResB.drew (by assumption) | exact ResC.drew (by assumption) | assumption | exact Ext.drew (by assumption) | exact Res.drew (by assumption)) (fun hHeld => ?_)
    refine Ord.K 0 10 ?_
    refine Ord.K 1 11 ?_
    refine Ord.K 2 12 ?_
    (refine wpAnyH_ready (rs := [3]) (by kernel_rfl) (by simp) ?_; refine AllReadyH.cons rfl (fun K hK => ?_) AllReadyH.nil; go_simp; (first | (go_at_call 280; with_reducible refine (S1.out _).mono ?_; rintro e w4 ⟨rfl, hy⟩) | (go_at_call 280; with_reducible refine (S2.out _).mono ?_; rintro e w5 ⟨rfl, hy⟩) | (go_at_call 307; with_reducible refine (TA2.out _ (by assumption)).mono ?_; rintro e w6 ⟨rfl, hy⟩) | (go_at_call 307; with_reducible refine (TB2.out _ (by assumption)).mono ?_; rintro e w7 ⟨rfl, hy⟩) | (go_at_call 272; refine (PO.out _).mono ?_; rintro e w8 ⟨rfl, rfl⟩)); go_wp2_with fail; (refine hK.out _ _ (by first | assumption | exact Ext.trans (by assumption) hy | exact Res.ext (by assumption) hy | exact ResB.ext (by assumption) hy | exact ResC.ext (by assumption) hy | (go_split_ands; (repeat' apply And.intro) <;> exact Ext.cellOf hy (by assumption))) (fun hHeld => ?_)); clear hK K; (try simp only [Act.put, Ord.a, Ord.b, Ord.c]))
    refine Ord.K 4 14 ?_
    refine Ord.K 5 15 ?_
    (first | (refine Ord.s 6 16 ?_ ?_; rfl; (try simp only [Act.put, Ord.a, Ord.b, Ord.c])) | refine Ord.K 6 16 ?_)
    (first | (refine Ord.s 7 17 ?_ ?_; rfl; (try simp only [Act.put, Ord.a, Ord.b, Ord.c])) | refine Ord.K 7 17 ?_)
    (first | (refine Ord.s 8 18 ?_ ?_; rfl; (try simp only [Act.put, Ord.a, Ord.b, Ord.c])) | refine Ord.K 8 18 ?_)
    (first | (refine Ord.s 9 19 ?_ ?_; rfl; (try simp only [Act.put, Ord.a, Ord.b, Ord.c])) | (refine wpAnyH_ready (rs := [9]) (by kernel_rfl) (by simp) ?_; refine AllReadyH.cons rfl (fun K hK => ?_) AllReadyH.nil; go_simp; (first | (go_at_call 280; with_reducible refine (S1.out _).mono ?_; rintro e w4 ⟨rfl, hy⟩) | (go_at_call 280; with_reducible refine (S2.out _).mono ?_; rintro e w5 ⟨rfl, hy⟩) | (go_at_call 307; with_reducible refine (TA2.out _ (by assumption)).mono ?_; rintro e w6 ⟨rfl, hy⟩) | (go_at_call 307; with_reducible refine (TB2.out _ (by assumption)).mono ?_; rintro e w7 ⟨rfl, hy⟩) | (go_at_call 272; refine (PO.out _).mono ?_; rintro e w8 ⟨rfl, rfl⟩)); go_wp2_with fail; (refine hK.out _ _ (by first | assumption | exact Ext.trans (by assumption) hy | exact Res.ext (by assumption) hy | exact ResB.ext (by assumption) hy | exact ResC.ext (by assumption) hy | (go_split_ands; (repeat' apply And.intro) <;> exact Ext.cellOf hy (by assumption))) (fun hHeld => ?_)); clear hK K; (try simp only [Act.put, Ord.a, Ord.b, Ord.c])))
    (first | (refine Ord.s 10 20 ?_ ?_; rfl; (try simp only [Act.put, Ord.a, Ord.b, Ord.c])) | refine Ord.K 10 20 ?_)
    refine Ord.K 11 21 ?_
    refine Ord.K 12 22 ?_
    (first | (refine Ord.s 13 23 ?_ ?_; rfl; (try simp only [Act.put, Ord.a, Ord.b, Ord.c])) | refine Ord.K 13 23 ?_)
    (first | (refine Ord.s 14 24 ?_ ?_; rfl; (try simp only [Act.put, Ord.a, Ord.b, Ord.c])) | refine Ord.K 14 24 ?_)
    (first | (refine Ord.s 15 25 ?_ ?_; rfl; (try simp only [Act.put, Ord.a, Ord.b, Ord.c])) | refine Ord.K 15 25 ?_)
    (first | (refine Ord.s 17 27 ?_ ?_; rfl; (try simp only [Act.put, Ord.a, Ord.b, Ord.c])) | refine Ord.K 17 27 ?_)
    (first | (refine Ord.s 18 28 ?_ ?_; rfl; (try simp only [Act.put, Ord.a, Ord.b, Ord.c])) | refine Ord.K 18 28 ?_)
    (first | (refine Ord.s 19 29 ?_ ?_; rfl; (try simp only [Act.put, Ord.a, Ord.b, Ord.c])) | refine Ord.K 19 29 ?_)
    (first | (refine Ord.s 16 26 ?_ ?_; rfl; (try simp only [Act.put, Ord.a, Ord.b, Ord.c])) | (refine wpAnyH_ready (rs := [16]) (by kernel_rfl) (by simp) ?_; refine AllReadyH.cons rfl (fun K hK => ?_) AllReadyH.nil; go_simp; (first | (go_at_call 280; with_reducible refine (S1.out _).mono ?_; rintro e w4 ⟨rfl, hy⟩) | (go_at_call 280; with_reducible refine (S2.out _).mono ?_; rintro e w5 ⟨rfl, hy⟩) | (go_at_call 307; with_reducible refine (TA2.out _ (by assumption)).mono ?_; rintro e w6 ⟨rfl, hy⟩) | (go_at_call 307; with_reducible refine (TB2.out _ (by assumption)).mono ?_; rintro e w7 ⟨rfl, hy⟩) | (go_at_call 272; refine (PO.out _).mono ?_; rintro e w8 ⟨rfl, rfl⟩)); go_wp2_with fail; (refine hK.out _ _ (by first | assumption | exact Ext.trans (by assumption) hy | exact Res.ext (by assumption) hy | exact ResB.ext (by assumption) hy | exact ResC.ext (by assumption) hy | (go_split_ands; (repeat' apply And.intro) <;> exact Ext.cellOf hy (by assumption))) (fun hHeld => ?_)); clear hK K; (try simp only [Act.put, Ord.a, Ord.b, Ord.c])))
    (first | (refine Ord.s 20 30 ?_ ?_; rfl; (try simp only [Act.put, Ord.a, Ord.b, Ord.c])) | (refine wpAnyH_ready (rs := [20]) (by kernel_rfl) (by simp) ?_; refine AllReadyH.cons rfl (fun K hK => ?_) AllReadyH.nil; go_simp; (first | (go_at_call 280; with_reducible refine (S1.out _).mono ?_; rintro e w4 ⟨rfl, hy⟩) | (go_at_call 280; with_reducible refine (S2.out _).mono ?_; rintro e w5 ⟨rfl, hy⟩) | (go_at_call 307; with_reducible refine (TA2.out _ (by assumption)).mono ?_; rintro e w6 ⟨rfl, hy⟩) | (go_at_call 307; with_reducible refine (TB2.out _ (by assumption)).mono ?_; rintro e w7 ⟨rfl, hy⟩) | (go_at_call 272; refine (PO.out _).mono ?_; rintro e w8 ⟨rfl, rfl⟩)); go_wp2_with fail; (refine hK.out _ _ (by first | assumption | exact Ext.trans (by assumption) hy | exact Res.ext (by assumption) hy | exact ResB.ext (by assumption) hy | exact ResC.ext (by assumption) hy | (go_split_ands; (repeat' apply And.intro) <;> exact Ext.cellOf hy (by assumption))) (fun hHeld => ?_)); clear hK K; (try simp only [Act.put, Ord.a, Ord.b, Ord.c])))
    (first | (refine Ord.s 21 31 ?_ ?_; rfl; (try simp only [Act.put, Ord.a, Ord.b, Ord.c])) | (refine wpAnyH_ready (rs := [21]) (by kernel_rfl) (by simp) ?_; refine AllReadyH.cons rfl (fun K hK => ?_) AllReadyH.nil; go_simp; (first | (go_at_call 280; with_reducible refine (S1.out _).mono ?_; rintro e w4 ⟨rfl, hy⟩) | (go_at_call 280; with_reducible refine (S2.out _).mono ?_; rintro e w5 ⟨rfl, hy⟩) | (go_at_call 307; with_reducible refine (TA2.out _ (by assumption)).mono ?_; rintro e w6 ⟨rfl, hy⟩) | (go_at_call 307; with_reducible refine (TB2.out _ (by assumption)).mono ?_; rintro e w7 ⟨rfl, hy⟩) | (go_at_call 272; refine (PO.out _).mono ?_; rintro e w8 ⟨rfl, rfl⟩)); go_wp2_with fail; (refine hK.out _ _ (by first | assumption | exact Ext.trans (by assumption) hy | exact Res.ext (by assumption) hy | exact ResB.ext (by assumption) hy | exact ResC.ext (by assumption) hy | (go_split_ands; (repeat' apply And.intro) <;> exact Ext.cellOf hy (by assumption))) (fun hHeld => ?_)); clear hK K; (try simp only [Act.put, Ord.a, Ord.b, Ord.c])))
    refine Ord.K 22 32 ?_
    refine Ord.K 23 6 ?_
    refine wpAnyH_done (by kernel_rfl) ?_ _
    go_wp2
    go_ret
    exact ⟨ret_bool H.out, hX.trans (hz.trans (by assumption))⟩
theorem ir_done {n : Nat} {w F : World} {tmps : Array Value} {a b : Int} (B : Box F n [.int .i64 a, .int .i64 b]) (hC : Ext w F) (h6 : tmps[6]? = some (.pointer (some ⟨n, 0, none⟩))) (X Y : Int) (hX : X = a) (hY : Y = b) :
    bodyPost Tryz.prog Tryz.f237 (fun e w' => e = .returned (Pt X Y) ∧ Ext w w') Exit.ret ⟨tmps, []⟩ F := by
  subst hX; subst hY
  obtain ⟨⟨g0, g1⟩, _⟩ := B.two
  exact bodyPost_ret (v := Pt X Y) (by simp [results, Tryz.results237, go_sem, h6, g0, g1]) rfl ⟨rfl, hC⟩
def irG (k : Int) : Int := gvG false 0 k
def irR (k : Int) : Int := gvR false 0 k
set_option maxHeartbeats 2000000 in
theorem insideRoom_any (N : ByteArray) (X Y S Z a b c d n p q u v m : Int) (w : World) (hX' : Co X) (hY' : Co Y) (ha : Co a) (hb : Co b) (hp : Co p) (hq : Co q) :
    Calls Tryz.prog 237 #[MkV N X Y S Z, Hv a b c d n, Hv p q u v m] w fun e w' => e = .returned (Pt (irG (inN a b p q X Y)) (irR (inN a b p q X Y))) ∧ Ext w w' := by
  have PA := Lib.hid (fun w => insideHull_any N X Y S Z a b c d n p q u v m w hX' hY' ha hb hp hq)
  have hk := inN_three a b p q X Y
  generalize inN a b p q X Y = k at *
  clear hX' hY' ha hb hp hq
  obtain ⟨W0, hW0⟩ : ∃ W0, W0 = (((w.alloc (.cells #[.string N, .int .i64 X, .int .i64 Y, .int .i64 S, .int .i64 Z] 145)).alloc (.cells #[.int .i64 a, .int .i64 b, .int .i64 c, .int .i64 d, .int .i64 n] 62)).alloc (.cells #[.int .i64 p, .int .i64 q, .int .i64 u, .int .i64 v, .int .i64 m] 62)).alloc (.cells #[.int .i64 0, .int .i64 0] 102) := ⟨_, rfl⟩
  have hX : Ext w W0 := hW0 ▸ (((((Ext.refl w).alloc _).alloc _).alloc _).alloc _)
  have hs0 : W0.heap.size = w.heap.size + 1 + 1 + 1 + 1 := by rw [hW0]; simp
  have e00 : ∀ w', (Ext W0) w' → w'.cell? ⟨w.heap.size, 0, none⟩ = some (.string N) := fun w' h => h.cellOf (by rw [hW0]; exact ((((Ext.refl _).alloc _).alloc _).alloc _).cellOf (boxed 0 rfl (by simp)))
  have e01 : ∀ w', (Ext W0) w' → w'.cell? ⟨w.heap.size, 1, none⟩ = some (.int .i64 X) := fun w' h => h.cellOf (by rw [hW0]; exact ((((Ext.refl _).alloc _).alloc _).alloc _).cellOf (boxed 1 rfl (by simp)))
  have e02 : ∀ w', (Ext W0) w' → w'.cell? ⟨w.heap.size, 2, none⟩ = some (.int .i64 Y) := fun w' h => h.cellOf (by rw [hW0]; exact ((((Ext.refl _).alloc _).alloc _).alloc _).cellOf (boxed 2 rfl (by simp)))
  have e03 : ∀ w', (Ext W0) w' → w'.cell? ⟨w.heap.size, 3, none⟩ = some (.int .i64 S) := fun w' h => h.cellOf (by rw [hW0]; exact ((((Ext.refl _).alloc _).alloc _).alloc _).cellOf (boxed 3 rfl (by simp)))
  have e04 : ∀ w', (Ext W0) w' → w'.cell? ⟨w.heap.size, 4, none⟩ = some (.int .i64 Z) := fun w' h => h.cellOf (by rw [hW0]; exact ((((Ext.refl _).alloc _).alloc _).alloc _).cellOf (boxed 4 rfl (by simp)))
  have e10 : ∀ w', (Ext W0) w' → w'.cell? ⟨w.heap.size + 1, 0, none⟩ = some (.int .i64 a) := fun w' h => h.cellOf (by rw [hW0]; exact (((Ext.refl _).alloc _).alloc _).cellOf (boxed 0 rfl (by simp)))
  have e11 : ∀ w', (Ext W0) w' → w'.cell? ⟨w.heap.size + 1, 1, none⟩ = some (.int .i64 b) := fun w' h => h.cellOf (by rw [hW0]; exact (((Ext.refl _).alloc _).alloc _).cellOf (boxed 1 rfl (by simp)))
  have e12 : ∀ w', (Ext W0) w' → w'.cell? ⟨w.heap.size + 1, 2, none⟩ = some (.int .i64 c) := fun w' h => h.cellOf (by rw [hW0]; exact (((Ext.refl _).alloc _).alloc _).cellOf (boxed 2 rfl (by simp)))
  have e13 : ∀ w', (Ext W0) w' → w'.cell? ⟨w.heap.size + 1, 3, none⟩ = some (.int .i64 d) := fun w' h => h.cellOf (by rw [hW0]; exact (((Ext.refl _).alloc _).alloc _).cellOf (boxed 3 rfl (by simp)))
  have e14 : ∀ w', (Ext W0) w' → w'.cell? ⟨w.heap.size + 1, 4, none⟩ = some (.int .i64 n) := fun w' h => h.cellOf (by rw [hW0]; exact (((Ext.refl _).alloc _).alloc _).cellOf (boxed 4 rfl (by simp)))
  have e20 : ∀ w', (Ext W0) w' → w'.cell? ⟨w.heap.size + 1 + 1, 0, none⟩ = some (.int .i64 p) := fun w' h => h.cellOf (by rw [hW0]; exact ((Ext.refl _).alloc _).cellOf (boxed 0 rfl (by simp)))
  have e21 : ∀ w', (Ext W0) w' → w'.cell? ⟨w.heap.size + 1 + 1, 1, none⟩ = some (.int .i64 q) := fun w' h => h.cellOf (by rw [hW0]; exact ((Ext.refl _).alloc _).cellOf (boxed 1 rfl (by simp)))
  have e22 : ∀ w', (Ext W0) w' → w'.cell? ⟨w.heap.size + 1 + 1, 2, none⟩ = some (.int .i64 u) := fun w' h => h.cellOf (by rw [hW0]; exact ((Ext.refl _).alloc _).cellOf (boxed 2 rfl (by simp)))
  have e23 : ∀ w', (Ext W0) w' → w'.cell? ⟨w.heap.size + 1 + 1, 3, none⟩ = some (.int .i64 v) := fun w' h => h.cellOf (by rw [hW0]; exact ((Ext.refl _).alloc _).cellOf (boxed 3 rfl (by simp)))
  have e24 : ∀ w', (Ext W0) w' → w'.cell? ⟨w.heap.size + 1 + 1, 4, none⟩ = some (.int .i64 m) := fun w' h => h.cellOf (by rw [hW0]; exact ((Ext.refl _).alloc _).cellOf (boxed 4 rfl (by simp)))
  have e30 : ∀ w', (Ext W0) w' → w'.cell? ⟨w.heap.size + 1 + 1 + 1, 0, none⟩ = some (.int .i64 0) := fun w' h => h.cellOf (by rw [hW0]; exact boxed 0 rfl (by simp))
  have e31 : ∀ w', (Ext W0) w' → w'.cell? ⟨w.heap.size + 1 + 1 + 1, 1, none⟩ = some (.int .i64 0) := fun w' h => h.cellOf (by rw [hW0]; exact boxed 1 rfl (by simp))
  have B3 := Lib.hid (show Box W0 (w.heap.size + 1 + 1 + 1) [.int .i64 0, .int .i64 0] from hW0 ▸ Box.new2 (by simp))
  go_enter Tryz.func237, Tryz.ntmps237
  go_wp2_with fail
  rw [← hW0]
  clear hW0
  refine (PA.out _).mono ?_
  rintro e w1 ⟨rfl, hz⟩
  replace hz : Ext W0 w1 := hz
  obtain ⟨⟨r0, r1⟩, r2, r3⟩ := (B3.out.ext hz).two
  rcases hk with rfl | rfl | rfl
  all_goals
    go_wp2
    exact ir_done (B3.out.ext hz).set2 (((hX.trans hz).setNew (by simp; omega) _).setNew (by simp; omega) _) rfl _ _ rfl rfl
theorem rw_done {n : Nat} {w F : World} {tmps : Array Value} {a b : Int} (B : Box F n [.int .i64 a, .int .i64 b]) (hC : Ext w F) (h6 : tmps[8]? = some (.pointer (some ⟨n, 0, none⟩))) (X Y : Int) (hX : X = a) (hY : Y = b) :
    bodyPost Tryz.prog Tryz.f185 (fun e w' => e = .returned (Pt X Y) ∧ Ext w w') Exit.ret ⟨tmps, []⟩ F := by
  subst hX; subst hY
  obtain ⟨⟨g0, g1⟩, _⟩ := B.two
  exact bodyPost_ret (v := Pt X Y) (by simp [results, Tryz.results185, go_sem, h6, g0, g1]) rfl ⟨rfl, hC⟩
set_option maxHeartbeats 4000000 in
theorem between_any (x y : Int) (N : ByteArray) (X Y S Z a b c d n p q u v m : Int) (w : World) (hw : wdB x y = true) (hp : ptB X Y = true) (h : hlB a b c d n = true) (g : hlB p q u v m = true) :
    Calls Tryz.prog 185 #[Pt x y, MkV N X Y S Z, Hv a b c d n, Hv p q u v m] w fun e w' => e = .returned (Pt (rmG x y X Y a b c d n p q u v m) (rmR x y X Y a b c d n p q u v m)) ∧ Ext w w' := by
  have PB := Lib.hid (fun w => beating_any x y a b c d n p q u v m w hw h g)
  have PR := Lib.hid (fun w => relationTo_any a b c d n p q u v m w h g)
  have PI := Lib.hid (fun w => insideRoom_any N X Y S Z a b c d n p q u v m w (show Co X from (ptB_yes hp).1) (show Co Y from (ptB_yes hp).2) (hlB_yes h).1.1 (hlB_yes h).1.2 (hlB_yes g).1.1 (hlB_yes g).1.2)
  have hO := ovN_four (caB a b c d n p q) (caB p q u v m a b)
  unfold rmG rmR
  generalize ovN (caB a b c d n p q) (caB p q u v m a b) = O at *
  generalize rbT x y c d u v = T at *
  generalize inN a b p q X Y = K at *
  clear hw hp h g
  obtain ⟨W0, hW0⟩ : ∃ W0, W0 = ((((w.alloc (.cells #[.int .i64 x, .int .i64 y] 54)).alloc (.cells #[.string N, .int .i64 X, .int .i64 Y, .int .i64 S, .int .i64 Z] 145)).alloc (.cells #[.int .i64 a, .int .i64 b, .int .i64 c, .int .i64 d, .int .i64 n] 62)).alloc (.cells #[.int .i64 p, .int .i64 q, .int .i64 u, .int .i64 v, .int .i64 m] 62)).alloc (.cells #[.int .i64 0, .int .i64 0] 102) := ⟨_, rfl⟩
  have hX : Ext w W0 := hW0 ▸ ((((((Ext.refl w).alloc _).alloc _).alloc _).alloc _).alloc _)
  have hs0 : W0.heap.size = w.heap.size + 1 + 1 + 1 + 1 + 1 := by rw [hW0]; simp
  have e00 : ∀ w', (Ext W0) w' → w'.cell? ⟨w.heap.size, 0, none⟩ = some (.int .i64 x) := fun w' h => h.cellOf (by rw [hW0]; exact (((((Ext.refl _).alloc _).alloc _).alloc _).alloc _).cellOf (boxed 0 rfl (by simp)))
  have e01 : ∀ w', (Ext W0) w' → w'.cell? ⟨w.heap.size, 1, none⟩ = some (.int .i64 y) := fun w' h => h.cellOf (by rw [hW0]; exact (((((Ext.refl _).alloc _).alloc _).alloc _).alloc _).cellOf (boxed 1 rfl (by simp)))
  have e10 : ∀ w', (Ext W0) w' → w'.cell? ⟨w.heap.size + 1, 0, none⟩ = some (.string N) := fun w' h => h.cellOf (by rw [hW0]; exact ((((Ext.refl _).alloc _).alloc _).alloc _).cellOf (boxed 0 rfl (by simp)))
  have e11 : ∀ w', (Ext W0) w' → w'.cell? ⟨w.heap.size + 1, 1, none⟩ = some (.int .i64 X) := fun w' h => h.cellOf (by rw [hW0]; exact ((((Ext.refl _).alloc _).alloc _).alloc _).cellOf (boxed 1 rfl (by simp)))
  have e12 : ∀ w', (Ext W0) w' → w'.cell? ⟨w.heap.size + 1, 2, none⟩ = some (.int .i64 Y) := fun w' h => h.cellOf (by rw [hW0]; exact ((((Ext.refl _).alloc _).alloc _).alloc _).cellOf (boxed 2 rfl (by simp)))
  have e13 : ∀ w', (Ext W0) w' → w'.cell? ⟨w.heap.size + 1, 3, none⟩ = some (.int .i64 S) := fun w' h => h.cellOf (by rw [hW0]; exact ((((Ext.refl _).alloc _).alloc _).alloc _).cellOf (boxed 3 rfl (by simp)))
  have e14 : ∀ w', (Ext W0) w' → w'.cell? ⟨w.heap.size + 1, 4, none⟩ = some (.int .i64 Z) := fun w' h => h.cellOf (by rw [hW0]; exact ((((Ext.refl _).alloc _).alloc _).alloc _).cellOf (boxed 4 rfl (by simp)))
  have e20 : ∀ w', (Ext W0) w' → w'.cell? ⟨w.heap.size + 1 + 1, 0, none⟩ = some (.int .i64 a) := fun w' h => h.cellOf (by rw [hW0]; exact (((Ext.refl _).alloc _).alloc _).cellOf (boxed 0 rfl (by simp)))
  have e21 : ∀ w', (Ext W0) w' → w'.cell? ⟨w.heap.size + 1 + 1, 1, none⟩ = some (.int .i64 b) := fun w' h => h.cellOf (by rw [hW0]; exact (((Ext.refl _).alloc _).alloc _).cellOf (boxed 1 rfl (by simp)))
  have e22 : ∀ w', (Ext W0) w' → w'.cell? ⟨w.heap.size + 1 + 1, 2, none⟩ = some (.int .i64 c) := fun w' h => h.cellOf (by rw [hW0]; exact (((Ext.refl _).alloc _).alloc _).cellOf (boxed 2 rfl (by simp)))
  have e23 : ∀ w', (Ext W0) w' → w'.cell? ⟨w.heap.size + 1 + 1, 3, none⟩ = some (.int .i64 d) := fun w' h => h.cellOf (by rw [hW0]; exact (((Ext.refl _).alloc _).alloc _).cellOf (boxed 3 rfl (by simp)))
  have e24 : ∀ w', (Ext W0) w' → w'.cell? ⟨w.heap.size + 1 + 1, 4, none⟩ = some (.int .i64 n) := fun w' h => h.cellOf (by rw [hW0]; exact (((Ext.refl _).alloc _).alloc _).cellOf (boxed 4 rfl (by simp)))
  have e30 : ∀ w', (Ext W0) w' → w'.cell? ⟨w.heap.size + 1 + 1 + 1, 0, none⟩ = some (.int .i64 p) := fun w' h => h.cellOf (by rw [hW0]; exact ((Ext.refl _).alloc _).cellOf (boxed 0 rfl (by simp)))
  have e31 : ∀ w', (Ext W0) w' → w'.cell? ⟨w.heap.size + 1 + 1 + 1, 1, none⟩ = some (.int .i64 q) := fun w' h => h.cellOf (by rw [hW0]; exact ((Ext.refl _).alloc _).cellOf (boxed 1 rfl (by simp)))
  have e32 : ∀ w', (Ext W0) w' → w'.cell? ⟨w.heap.size + 1 + 1 + 1, 2, none⟩ = some (.int .i64 u) := fun w' h => h.cellOf (by rw [hW0]; exact ((Ext.refl _).alloc _).cellOf (boxed 2 rfl (by simp)))
  have e33 : ∀ w', (Ext W0) w' → w'.cell? ⟨w.heap.size + 1 + 1 + 1, 3, none⟩ = some (.int .i64 v) := fun w' h => h.cellOf (by rw [hW0]; exact ((Ext.refl _).alloc _).cellOf (boxed 3 rfl (by simp)))
  have e34 : ∀ w', (Ext W0) w' → w'.cell? ⟨w.heap.size + 1 + 1 + 1, 4, none⟩ = some (.int .i64 m) := fun w' h => h.cellOf (by rw [hW0]; exact ((Ext.refl _).alloc _).cellOf (boxed 4 rfl (by simp)))
  have e40 : ∀ w', (Ext W0) w' → w'.cell? ⟨w.heap.size + 1 + 1 + 1 + 1, 0, none⟩ = some (.int .i64 0) := fun w' h => h.cellOf (by rw [hW0]; exact boxed 0 rfl (by simp))
  have e41 : ∀ w', (Ext W0) w' → w'.cell? ⟨w.heap.size + 1 + 1 + 1 + 1, 1, none⟩ = some (.int .i64 0) := fun w' h => h.cellOf (by rw [hW0]; exact boxed 1 rfl (by simp))
  have B3 := Lib.hid (show Box W0 (w.heap.size + 1 + 1 + 1 + 1) [.int .i64 0, .int .i64 0] from hW0 ▸ Box.new2 (by simp))
  go_enter Tryz.func185, Tryz.ntmps185
  go_wp2_with fail
  rw [← hW0]
  clear hW0
  refine (PB.out _).mono ?_
  rintro e w1 ⟨rfl, hz⟩
  replace hz : Ext W0 w1 := hz
  cases T
  rotate_left
  · obtain ⟨⟨r0, r1⟩, r2, r3⟩ := (B3.out.ext hz).two
    go_wp2
    exact rw_done (B3.out.ext hz).set2 (((hX.trans hz).setNew (by simp; omega) _).setNew (by simp; omega) _) rfl _ _ rfl rfl
  have g20 := e20 w1 hz; have g21 := e21 w1 hz; have g22 := e22 w1 hz; have g23 := e23 w1 hz; have g24 := e24 w1 hz
  have g30 := e30 w1 hz; have g31 := e31 w1 hz; have g32 := e32 w1 hz; have g33 := e33 w1 hz; have g34 := e34 w1 hz
  go_wp2_with fail
  refine (PR.out _).mono ?_
  rintro e w2 ⟨rfl, hy⟩
  replace hz := hz.trans hy
  clear hy g20 g21 g22 g23 g24 g30 g31 g32 g33 g34
  rcases hO with rfl | rfl | rfl | rfl
  rotate_left
  · obtain ⟨⟨r0, r1⟩, r2, r3⟩ := (B3.out.ext hz).two
    go_wp2
    exact rw_done (B3.out.ext hz).set2 (((hX.trans hz).setNew (by simp; omega) _).setNew (by simp; omega) _) rfl _ _ rfl rfl
  · obtain ⟨⟨r0, r1⟩, r2, r3⟩ := (B3.out.ext hz).two
    go_wp2
    exact rw_done (B3.out.ext hz).set2 (((hX.trans hz).setNew (by simp; omega) _).setNew (by simp; omega) _) rfl _ _ rfl rfl
  · obtain ⟨⟨r0, r1⟩, r2, r3⟩ := (B3.out.ext hz).two
    go_wp2
    exact rw_done (B3.out.ext hz).set2 (((hX.trans hz).setNew (by simp; omega) _).setNew (by simp; omega) _) rfl _ _ rfl rfl
  have g10 := e10 w2 hz; have g11 := e11 w2 hz; have g12 := e12 w2 hz; have g13 := e13 w2 hz; have g14 := e14 w2 hz
  have g20 := e20 w2 hz; have g21 := e21 w2 hz; have g22 := e22 w2 hz; have g23 := e23 w2 hz; have g24 := e24 w2 hz
  have g30 := e30 w2 hz; have g31 := e31 w2 hz; have g32 := e32 w2 hz; have g33 := e33 w2 hz; have g34 := e34 w2 hz
  go_wp2_with fail
  refine (PI.out _).mono ?_
  rintro e w3 ⟨rfl, hy⟩
  replace hz := hz.trans hy
  clear hy g10 g11 g12 g13 g14 g20 g21 g22 g23 g24 g30 g31 g32 g33 g34
  obtain ⟨⟨r0, r1⟩, r2, r3⟩ := (B3.out.ext hz).two
  go_wp2
  exact rw_done (B3.out.ext hz).set2 (((hX.trans hz).setNew (by simp; omega) _).setNew (by simp; omega) _) rfl _ _ rfl rfl
theorem rr11_done {n : Nat} {w F : World} {tmps : Array Value} {a b : Int} (B : Box F n [.int .i64 a, .int .i64 b]) (hC : Ext w F) (h6 : tmps[8]? = some (.pointer (some ⟨n, 0, none⟩))) (X Y : Int) (hX : X = a) (hY : Y = b) :
    bodyPost Tryz.prog Tryz.f184 (fun e w' => e = .returned (Pt X Y) ∧ Ext w w') Exit.ret ⟨tmps, []⟩ F := by
  subst hX; subst hY
  obtain ⟨⟨g0, g1⟩, _⟩ := B.two
  exact bodyPost_ret (v := Pt X Y) (by simp [results, Tryz.results184, go_sem, h6, g0, g1]) rfl ⟨rfl, hC⟩
theorem bt_cases {i j e f : Int} :
    ((i != 0) = false ∧ btB i j e f = false) ∨ ((i != 0) = true ∧ (j != 0) = false ∧ btB i j e f = false) ∨ ((i != 0) = true ∧ (j != 0) = true ∧ (i != j) = false ∧ btB i j e f = false) ∨
    ((i != 0) = true ∧ (j != 0) = true ∧ (i != j) = true ∧ (e == 1) = false ∧ btB i j e f = false) ∨ ((i != 0) = true ∧ (j != 0) = true ∧ (i != j) = true ∧ (e == 1) = true ∧ (f == 1) = false ∧ btB i j e f = false) ∨
    ((i != 0) = true ∧ (j != 0) = true ∧ (i != j) = true ∧ (e == 1) = true ∧ (f == 1) = true ∧ btB i j e f = true) := by
  unfold btB opB
  cases (i != 0) <;> cases (j != 0) <;> cases (i != j) <;> cases (e == 1) <;> cases (f == 1) <;> decide
set_option maxRecDepth 100000 in
set_option maxHeartbeats 8000000 in
theorem room_spec (x y : Int) (N : ByteArray) (X Y S Z a b c d n p q u v m : Int) (w : World) (hw : wdB x y = true) (hp : ptB X Y = true) (h : hlB a b c d n = true) (g : hlB p q u v m = true) :
    Calls Tryz.prog 184 #[Pt x y, MkV N X Y S Z, Hv a b c d n, Hv p q u v m] w fun e w' => e = .returned (Pt (rmG x y X Y a b c d n p q u v m) (rmR x y X Y a b c d n p q u v m)) ∧ Ext w w' := by
  obtain ⟨x1, y1, z1⟩ := wdB_yes hw
  obtain ⟨⟨ha, hb⟩, ⟨hc, hd, hn⟩, _⟩ := hlB_yes h
  obtain ⟨⟨hp', hq⟩, ⟨hu, hv, ho⟩, _⟩ := hlB_yes g
  have P1 := Lib.hid (fun w => tackS_any x y c d w x1 y1 hc hd)
  have P2 := Lib.hid (fun w => tackS_any x y u v w x1 y1 hu hv)
  have S1 := Lib.hid (fun w => sailS_any x y c d w x1 y1 hc hd)
  have S2 := Lib.hid (fun w => sailS_any x y u v w x1 y1 hu hv)
  have PO := Lib.hid (fun w => overlapS_any a b c d n p q u v m w h g)
  have PI := Lib.hid (fun w => insideS_any X Y a b c d n p q u v m w (show Co X from (ptB_yes hp).1) (show Co Y from (ptB_yes hp).2) ha hb hp' hq)
  have hO := Lib.hid (ovN_four (caB a b c d n p q) (caB p q u v m a b))
  have hK := Lib.hid (inN_three a b p q X Y)
  unfold rmG rmR rbT
  generalize slN (c * y - d * x) (c * x + d * y) = E at *
  generalize slN (u * y - v * x) (u * x + v * y) = F at *
  generalize tkN (c * y - d * x) = i at *
  generalize tkN (u * y - v * x) = j at *
  generalize ovN (caB a b c d n p q) (caB p q u v m a b) = O at *
  generalize inN a b p q X Y = K at *
  have key := bt_cases (i := i) (j := j) (e := E) (f := F)
  generalize btB i j E F = T at *
  clear x1 y1 z1 ha hb hc hd hn hp' hq hu hv ho hw h g hp
  obtain ⟨W0, hW0⟩ : ∃ W0, W0 = ((((w.alloc (.cells #[.int .i64 x, .int .i64 y] 54)).alloc (.cells #[.string N, .int .i64 X, .int .i64 Y, .int .i64 S, .int .i64 Z] 145)).alloc (.cells #[.int .i64 a, .int .i64 b, .int .i64 c, .int .i64 d, .int .i64 n] 62)).alloc (.cells #[.int .i64 p, .int .i64 q, .int .i64 u, .int .i64 v, .int .i64 m] 62)).alloc (.cells #[.int .i64 0, .int .i64 0] 102) := ⟨_, rfl⟩
  have hX : Ext w W0 := hW0 ▸ ((((((Ext.refl w).alloc _).alloc _).alloc _).alloc _).alloc _)
  have hs0 : W0.heap.size = w.heap.size + 1 + 1 + 1 + 1 + 1 := by rw [hW0]; simp
  have e00 : ∀ w', (Ext W0) w' → w'.cell? ⟨w.heap.size, 0, none⟩ = some (.int .i64 x) := fun w' h => h.cellOf (by rw [hW0]; exact (((((Ext.refl _).alloc _).alloc _).alloc _).alloc _).cellOf (boxed 0 rfl (by simp)))
  have e01 : ∀ w', (Ext W0) w' → w'.cell? ⟨w.heap.size, 1, none⟩ = some (.int .i64 y) := fun w' h => h.cellOf (by rw [hW0]; exact (((((Ext.refl _).alloc _).alloc _).alloc _).alloc _).cellOf (boxed 1 rfl (by simp)))
  have e10 : ∀ w', (Ext W0) w' → w'.cell? ⟨w.heap.size + 1, 0, none⟩ = some (.string N) := fun w' h => h.cellOf (by rw [hW0]; exact ((((Ext.refl _).alloc _).alloc _).alloc _).cellOf (boxed 0 rfl (by simp)))
  have e11 : ∀ w', (Ext W0) w' → w'.cell? ⟨w.heap.size + 1, 1, none⟩ = some (.int .i64 X) := fun w' h => h.cellOf (by rw [hW0]; exact ((((Ext.refl _).alloc _).alloc _).alloc _).cellOf (boxed 1 rfl (by simp)))
  have e12 : ∀ w', (Ext W0) w' → w'.cell? ⟨w.heap.size + 1, 2, none⟩ = some (.int .i64 Y) := fun w' h => h.cellOf (by rw [hW0]; exact ((((Ext.refl _).alloc _).alloc _).alloc _).cellOf (boxed 2 rfl (by simp)))
  have e13 : ∀ w', (Ext W0) w' → w'.cell? ⟨w.heap.size + 1, 3, none⟩ = some (.int .i64 S) := fun w' h => h.cellOf (by rw [hW0]; exact ((((Ext.refl _).alloc _).alloc _).alloc _).cellOf (boxed 3 rfl (by simp)))
  have e14 : ∀ w', (Ext W0) w' → w'.cell? ⟨w.heap.size + 1, 4, none⟩ = some (.int .i64 Z) := fun w' h => h.cellOf (by rw [hW0]; exact ((((Ext.refl _).alloc _).alloc _).alloc _).cellOf (boxed 4 rfl (by simp)))
  have e20 : ∀ w', (Ext W0) w' → w'.cell? ⟨w.heap.size + 1 + 1, 0, none⟩ = some (.int .i64 a) := fun w' h => h.cellOf (by rw [hW0]; exact (((Ext.refl _).alloc _).alloc _).cellOf (boxed 0 rfl (by simp)))
  have e21 : ∀ w', (Ext W0) w' → w'.cell? ⟨w.heap.size + 1 + 1, 1, none⟩ = some (.int .i64 b) := fun w' h => h.cellOf (by rw [hW0]; exact (((Ext.refl _).alloc _).alloc _).cellOf (boxed 1 rfl (by simp)))
  have e22 : ∀ w', (Ext W0) w' → w'.cell? ⟨w.heap.size + 1 + 1, 2, none⟩ = some (.int .i64 c) := fun w' h => h.cellOf (by rw [hW0]; exact (((Ext.refl _).alloc _).alloc _).cellOf (boxed 2 rfl (by simp)))
  have e23 : ∀ w', (Ext W0) w' → w'.cell? ⟨w.heap.size + 1 + 1, 3, none⟩ = some (.int .i64 d) := fun w' h => h.cellOf (by rw [hW0]; exact (((Ext.refl _).alloc _).alloc _).cellOf (boxed 3 rfl (by simp)))
  have e24 : ∀ w', (Ext W0) w' → w'.cell? ⟨w.heap.size + 1 + 1, 4, none⟩ = some (.int .i64 n) := fun w' h => h.cellOf (by rw [hW0]; exact (((Ext.refl _).alloc _).alloc _).cellOf (boxed 4 rfl (by simp)))
  have e30 : ∀ w', (Ext W0) w' → w'.cell? ⟨w.heap.size + 1 + 1 + 1, 0, none⟩ = some (.int .i64 p) := fun w' h => h.cellOf (by rw [hW0]; exact ((Ext.refl _).alloc _).cellOf (boxed 0 rfl (by simp)))
  have e31 : ∀ w', (Ext W0) w' → w'.cell? ⟨w.heap.size + 1 + 1 + 1, 1, none⟩ = some (.int .i64 q) := fun w' h => h.cellOf (by rw [hW0]; exact ((Ext.refl _).alloc _).cellOf (boxed 1 rfl (by simp)))
  have e32 : ∀ w', (Ext W0) w' → w'.cell? ⟨w.heap.size + 1 + 1 + 1, 2, none⟩ = some (.int .i64 u) := fun w' h => h.cellOf (by rw [hW0]; exact ((Ext.refl _).alloc _).cellOf (boxed 2 rfl (by simp)))
  have e33 : ∀ w', (Ext W0) w' → w'.cell? ⟨w.heap.size + 1 + 1 + 1, 3, none⟩ = some (.int .i64 v) := fun w' h => h.cellOf (by rw [hW0]; exact ((Ext.refl _).alloc _).cellOf (boxed 3 rfl (by simp)))
  have e34 : ∀ w', (Ext W0) w' → w'.cell? ⟨w.heap.size + 1 + 1 + 1, 4, none⟩ = some (.int .i64 m) := fun w' h => h.cellOf (by rw [hW0]; exact ((Ext.refl _).alloc _).cellOf (boxed 4 rfl (by simp)))
  have e40 : ∀ w', (Ext W0) w' → w'.cell? ⟨w.heap.size + 1 + 1 + 1 + 1, 0, none⟩ = some (.int .i64 0) := fun w' h => h.cellOf (by rw [hW0]; exact boxed 0 rfl (by simp))
  have e41 : ∀ w', (Ext W0) w' → w'.cell? ⟨w.heap.size + 1 + 1 + 1 + 1, 1, none⟩ = some (.int .i64 0) := fun w' h => h.cellOf (by rw [hW0]; exact boxed 1 rfl (by simp))
  have B3 := Lib.hid (show Box W0 (w.heap.size + 1 + 1 + 1 + 1) [.int .i64 0, .int .i64 0] from hW0 ▸ Box.new2 (by simp))
  have hr := Ext.refl W0
  go_enter Tryz.func184, Tryz.ntmps184
  go_wp2_with fail
  rw [← hW0]
  clear hW0
  refine wp_region_held_drew (S := (fun w' => Ext W0 w')) (by kernel_rfl) (by (try dsimp only); first | go_keep | exact (Ext.refl _).drew | exact Res.new2.drew | exact Res.new4.drew | exact ResB.drew (by assumption) | exact ResC.drew (by assumption) | assumption | exact Ext.drew (by assumption) | exact Res.drew (by assumption)) (fun hHeld => ?_)
  refine Ord.K 0 12 ?_
  refine Ord.K 1 13 ?_
  refine Ord.K 2 14 ?_
  refine Ord.K 4 16 ?_
  refine Ord.K 5 17 ?_
  refine Ord.K 6 18 ?_
  (refine wpAnyH_ready (rs := [3]) (by kernel_rfl) (by simp) ?_; refine AllReadyH.cons rfl (fun K hK => ?_) AllReadyH.nil; go_simp; (first | (go_at_call 155; with_reducible refine (P1.out _).mono ?_; rintro e w4 ⟨rfl, hy⟩) | (go_at_call 155; with_reducible refine (P2.out _).mono ?_; rintro e w5 ⟨rfl, hy⟩)); go_wp2_with fail; (refine hK.out _ _ (by first | assumption | exact Ext.trans (by assumption) hy | exact Res.ext (by assumption) hy | exact ResB.ext (by assumption) hy | exact ResC.ext (by assumption) hy | (go_split_ands; (repeat' apply And.intro) <;> exact Ext.cellOf hy (by assumption))) (fun hHeld => ?_)); clear hK K; (try simp only [Act.put, Ord.a, Ord.b, Ord.c]))
  (refine wpAnyH_ready (rs := [7]) (by kernel_rfl) (by simp) ?_; refine AllReadyH.cons rfl (fun K hK => ?_) AllReadyH.nil; go_simp; (first | (go_at_call 155; with_reducible refine (P1.out _).mono ?_; rintro e w4 ⟨rfl, hy⟩) | (go_at_call 155; with_reducible refine (P2.out _).mono ?_; rintro e w5 ⟨rfl, hy⟩)); go_wp2_with fail; (refine hK.out _ _ (by first | assumption | exact Ext.trans (by assumption) hy | exact Res.ext (by assumption) hy | exact ResB.ext (by assumption) hy | exact ResC.ext (by assumption) hy | (go_split_ands; (repeat' apply And.intro) <;> exact Ext.cellOf hy (by assumption))) (fun hHeld => ?_)); clear hK K; (try simp only [Act.put, Ord.a, Ord.b, Ord.c]))
  refine Ord.K 8 9 ?_
  refine Ord.K 9 10 ?_
  refine wpAnyH_done (by kernel_rfl) ?_ _
  have HX := Lib.hid (show Ext W0 w5 from hHeld)
  clear hHeld hy P1 P2 hr
  replace e00 : ∀ w', Ext w5 w' → w'.cell? ⟨w.heap.size, 0, none⟩ = some (.int .i64 x) := fun w' h => e00 w' (HX.out.trans h)
  replace e01 : ∀ w', Ext w5 w' → w'.cell? ⟨w.heap.size, 1, none⟩ = some (.int .i64 y) := fun w' h => e01 w' (HX.out.trans h)
  replace e10 : ∀ w', Ext w5 w' → w'.cell? ⟨w.heap.size + 1, 0, none⟩ = some (.string N) := fun w' h => e10 w' (HX.out.trans h)
  replace e11 : ∀ w', Ext w5 w' → w'.cell? ⟨w.heap.size + 1, 1, none⟩ = some (.int .i64 X) := fun w' h => e11 w' (HX.out.trans h)
  replace e12 : ∀ w', Ext w5 w' → w'.cell? ⟨w.heap.size + 1, 2, none⟩ = some (.int .i64 Y) := fun w' h => e12 w' (HX.out.trans h)
  replace e13 : ∀ w', Ext w5 w' → w'.cell? ⟨w.heap.size + 1, 3, none⟩ = some (.int .i64 S) := fun w' h => e13 w' (HX.out.trans h)
  replace e14 : ∀ w', Ext w5 w' → w'.cell? ⟨w.heap.size + 1, 4, none⟩ = some (.int .i64 Z) := fun w' h => e14 w' (HX.out.trans h)
  replace e20 : ∀ w', Ext w5 w' → w'.cell? ⟨w.heap.size + 1 + 1, 0, none⟩ = some (.int .i64 a) := fun w' h => e20 w' (HX.out.trans h)
  replace e21 : ∀ w', Ext w5 w' → w'.cell? ⟨w.heap.size + 1 + 1, 1, none⟩ = some (.int .i64 b) := fun w' h => e21 w' (HX.out.trans h)
  replace e22 : ∀ w', Ext w5 w' → w'.cell? ⟨w.heap.size + 1 + 1, 2, none⟩ = some (.int .i64 c) := fun w' h => e22 w' (HX.out.trans h)
  replace e23 : ∀ w', Ext w5 w' → w'.cell? ⟨w.heap.size + 1 + 1, 3, none⟩ = some (.int .i64 d) := fun w' h => e23 w' (HX.out.trans h)
  replace e24 : ∀ w', Ext w5 w' → w'.cell? ⟨w.heap.size + 1 + 1, 4, none⟩ = some (.int .i64 n) := fun w' h => e24 w' (HX.out.trans h)
  replace e30 : ∀ w', Ext w5 w' → w'.cell? ⟨w.heap.size + 1 + 1 + 1, 0, none⟩ = some (.int .i64 p) := fun w' h => e30 w' (HX.out.trans h)
  replace e31 : ∀ w', Ext w5 w' → w'.cell? ⟨w.heap.size + 1 + 1 + 1, 1, none⟩ = some (.int .i64 q) := fun w' h => e31 w' (HX.out.trans h)
  replace e32 : ∀ w', Ext w5 w' → w'.cell? ⟨w.heap.size + 1 + 1 + 1, 2, none⟩ = some (.int .i64 u) := fun w' h => e32 w' (HX.out.trans h)
  replace e33 : ∀ w', Ext w5 w' → w'.cell? ⟨w.heap.size + 1 + 1 + 1, 3, none⟩ = some (.int .i64 v) := fun w' h => e33 w' (HX.out.trans h)
  replace e34 : ∀ w', Ext w5 w' → w'.cell? ⟨w.heap.size + 1 + 1 + 1, 4, none⟩ = some (.int .i64 m) := fun w' h => e34 w' (HX.out.trans h)
  have hr := Ext.refl w5
  rcases key with ⟨k1, rfl⟩ | ⟨k1, k2, rfl⟩ | ⟨k1, k2, k3, rfl⟩ | ⟨k1, k2, k3, k4, rfl⟩ | ⟨k1, k2, k3, k4, k5, rfl⟩ | ⟨k1, k2, k3, k4, k5, rfl⟩
  · have hq := Ext.refl w5
    clear S1 S2 hr
    have g20 := e20 w5 hq; have g21 := e21 w5 hq; have g22 := e22 w5 hq; have g23 := e23 w5 hq; have g24 := e24 w5 hq
    have g30 := e30 w5 hq; have g31 := e31 w5 hq; have g32 := e32 w5 hq; have g33 := e33 w5 hq; have g34 := e34 w5 hq
    go_wp2_with fail
    refine (PO.out _).mono ?_
    rintro e w8 ⟨rfl, hy⟩
    clear g20 g21 g22 g23 g24 g30 g31 g32 g33 g34
    replace hq := hq.trans hy
    have HX2 := Lib.hid (HX.out.trans hq)
    rcases hO.out with rfl | rfl | rfl | rfl
    rotate_left
    · obtain ⟨⟨r0, r1⟩, r2, r3⟩ := (B3.out.ext HX2.out).two
      go_wp2
      exact rr11_done (B3.out.ext HX2.out).set2 (((hX.trans HX2.out).setNew (by simp; omega) _).setNew (by simp; omega) _) rfl _ _ rfl rfl
    · obtain ⟨⟨r0, r1⟩, r2, r3⟩ := (B3.out.ext HX2.out).two
      go_wp2
      exact rr11_done (B3.out.ext HX2.out).set2 (((hX.trans HX2.out).setNew (by simp; omega) _).setNew (by simp; omega) _) rfl _ _ rfl rfl
    · obtain ⟨⟨r0, r1⟩, r2, r3⟩ := (B3.out.ext HX2.out).two
      go_wp2
      exact rr11_done (B3.out.ext HX2.out).set2 (((hX.trans HX2.out).setNew (by simp; omega) _).setNew (by simp; omega) _) rfl _ _ rfl rfl
    have g10 := e10 w8 hq; have g11 := e11 w8 hq; have g12 := e12 w8 hq; have g13 := e13 w8 hq; have g14 := e14 w8 hq
    have g20 := e20 w8 hq; have g21 := e21 w8 hq; have g22 := e22 w8 hq; have g23 := e23 w8 hq; have g24 := e24 w8 hq
    have g30 := e30 w8 hq; have g31 := e31 w8 hq; have g32 := e32 w8 hq; have g33 := e33 w8 hq; have g34 := e34 w8 hq
    go_wp2_with fail
    refine (PI.out _).mono ?_
    rintro e w9 ⟨rfl, hy2⟩
    clear g10 g11 g12 g13 g14 g20 g21 g22 g23 g24 g30 g31 g32 g33 g34
    replace HX2 := Lib.hid (HX2.out.trans hy2)
    rcases hK.out with rfl | rfl | rfl
    all_goals
      obtain ⟨⟨r0, r1⟩, r2, r3⟩ := (B3.out.ext HX2.out).two
      go_wp2
      exact rr11_done (B3.out.ext HX2.out).set2 (((hX.trans HX2.out).setNew (by simp; omega) _).setNew (by simp; omega) _) rfl _ _ rfl rfl
  · have hq := Ext.refl w5
    clear S1 S2 hr
    have g20 := e20 w5 hq; have g21 := e21 w5 hq; have g22 := e22 w5 hq; have g23 := e23 w5 hq; have g24 := e24 w5 hq
    have g30 := e30 w5 hq; have g31 := e31 w5 hq; have g32 := e32 w5 hq; have g33 := e33 w5 hq; have g34 := e34 w5 hq
    go_wp2_with fail
    refine (PO.out _).mono ?_
    rintro e w8 ⟨rfl, hy⟩
    clear g20 g21 g22 g23 g24 g30 g31 g32 g33 g34
    replace hq := hq.trans hy
    have HX2 := Lib.hid (HX.out.trans hq)
    rcases hO.out with rfl | rfl | rfl | rfl
    rotate_left
    · obtain ⟨⟨r0, r1⟩, r2, r3⟩ := (B3.out.ext HX2.out).two
      go_wp2
      exact rr11_done (B3.out.ext HX2.out).set2 (((hX.trans HX2.out).setNew (by simp; omega) _).setNew (by simp; omega) _) rfl _ _ rfl rfl
    · obtain ⟨⟨r0, r1⟩, r2, r3⟩ := (B3.out.ext HX2.out).two
      go_wp2
      exact rr11_done (B3.out.ext HX2.out).set2 (((hX.trans HX2.out).setNew (by simp; omega) _).setNew (by simp; omega) _) rfl _ _ rfl rfl
    · obtain ⟨⟨r0, r1⟩, r2, r3⟩ := (B3.out.ext HX2.out).two
      go_wp2
      exact rr11_done (B3.out.ext HX2.out).set2 (((hX.trans HX2.out).setNew (by simp; omega) _).setNew (by simp; omega) _) rfl _ _ rfl rfl
    have g10 := e10 w8 hq; have g11 := e11 w8 hq; have g12 := e12 w8 hq; have g13 := e13 w8 hq; have g14 := e14 w8 hq
    have g20 := e20 w8 hq; have g21 := e21 w8 hq; have g22 := e22 w8 hq; have g23 := e23 w8 hq; have g24 := e24 w8 hq
    have g30 := e30 w8 hq; have g31 := e31 w8 hq; have g32 := e32 w8 hq; have g33 := e33 w8 hq; have g34 := e34 w8 hq
    go_wp2_with fail
    refine (PI.out _).mono ?_
    rintro e w9 ⟨rfl, hy2⟩
    clear g10 g11 g12 g13 g14 g20 g21 g22 g23 g24 g30 g31 g32 g33 g34
    replace HX2 := Lib.hid (HX2.out.trans hy2)
    rcases hK.out with rfl | rfl | rfl
    all_goals
      obtain ⟨⟨r0, r1⟩, r2, r3⟩ := (B3.out.ext HX2.out).two
      go_wp2
      exact rr11_done (B3.out.ext HX2.out).set2 (((hX.trans HX2.out).setNew (by simp; omega) _).setNew (by simp; omega) _) rfl _ _ rfl rfl
  · have hq := Ext.refl w5
    clear S1 S2 hr
    have g20 := e20 w5 hq; have g21 := e21 w5 hq; have g22 := e22 w5 hq; have g23 := e23 w5 hq; have g24 := e24 w5 hq
    have g30 := e30 w5 hq; have g31 := e31 w5 hq; have g32 := e32 w5 hq; have g33 := e33 w5 hq; have g34 := e34 w5 hq
    go_wp2_with fail
    refine (PO.out _).mono ?_
    rintro e w8 ⟨rfl, hy⟩
    clear g20 g21 g22 g23 g24 g30 g31 g32 g33 g34
    replace hq := hq.trans hy
    have HX2 := Lib.hid (HX.out.trans hq)
    rcases hO.out with rfl | rfl | rfl | rfl
    rotate_left
    · obtain ⟨⟨r0, r1⟩, r2, r3⟩ := (B3.out.ext HX2.out).two
      go_wp2
      exact rr11_done (B3.out.ext HX2.out).set2 (((hX.trans HX2.out).setNew (by simp; omega) _).setNew (by simp; omega) _) rfl _ _ rfl rfl
    · obtain ⟨⟨r0, r1⟩, r2, r3⟩ := (B3.out.ext HX2.out).two
      go_wp2
      exact rr11_done (B3.out.ext HX2.out).set2 (((hX.trans HX2.out).setNew (by simp; omega) _).setNew (by simp; omega) _) rfl _ _ rfl rfl
    · obtain ⟨⟨r0, r1⟩, r2, r3⟩ := (B3.out.ext HX2.out).two
      go_wp2
      exact rr11_done (B3.out.ext HX2.out).set2 (((hX.trans HX2.out).setNew (by simp; omega) _).setNew (by simp; omega) _) rfl _ _ rfl rfl
    have g10 := e10 w8 hq; have g11 := e11 w8 hq; have g12 := e12 w8 hq; have g13 := e13 w8 hq; have g14 := e14 w8 hq
    have g20 := e20 w8 hq; have g21 := e21 w8 hq; have g22 := e22 w8 hq; have g23 := e23 w8 hq; have g24 := e24 w8 hq
    have g30 := e30 w8 hq; have g31 := e31 w8 hq; have g32 := e32 w8 hq; have g33 := e33 w8 hq; have g34 := e34 w8 hq
    go_wp2_with fail
    refine (PI.out _).mono ?_
    rintro e w9 ⟨rfl, hy2⟩
    clear g10 g11 g12 g13 g14 g20 g21 g22 g23 g24 g30 g31 g32 g33 g34
    replace HX2 := Lib.hid (HX2.out.trans hy2)
    rcases hK.out with rfl | rfl | rfl
    all_goals
      obtain ⟨⟨r0, r1⟩, r2, r3⟩ := (B3.out.ext HX2.out).two
      go_wp2
      exact rr11_done (B3.out.ext HX2.out).set2 (((hX.trans HX2.out).setNew (by simp; omega) _).setNew (by simp; omega) _) rfl _ _ rfl rfl
  · have hq := Ext.refl w5
    have f0 := e00 w5 hq; have f1 := e01 w5 hq; have f2 := e22 w5 hq; have f3 := e23 w5 hq
    go_wp2_with fail
    refine (S1.out _).mono ?_
    rintro e w6 ⟨rfl, hy⟩
    replace hq := hq.trans hy
    clear hy f0 f1 f2 f3
    clear S1 S2 hr
    have g20 := e20 w6 hq; have g21 := e21 w6 hq; have g22 := e22 w6 hq; have g23 := e23 w6 hq; have g24 := e24 w6 hq
    have g30 := e30 w6 hq; have g31 := e31 w6 hq; have g32 := e32 w6 hq; have g33 := e33 w6 hq; have g34 := e34 w6 hq
    go_wp2_with fail
    refine (PO.out _).mono ?_
    rintro e w8 ⟨rfl, hy⟩
    clear g20 g21 g22 g23 g24 g30 g31 g32 g33 g34
    replace hq := hq.trans hy
    have HX2 := Lib.hid (HX.out.trans hq)
    rcases hO.out with rfl | rfl | rfl | rfl
    rotate_left
    · obtain ⟨⟨r0, r1⟩, r2, r3⟩ := (B3.out.ext HX2.out).two
      go_wp2
      exact rr11_done (B3.out.ext HX2.out).set2 (((hX.trans HX2.out).setNew (by simp; omega) _).setNew (by simp; omega) _) rfl _ _ rfl rfl
    · obtain ⟨⟨r0, r1⟩, r2, r3⟩ := (B3.out.ext HX2.out).two
      go_wp2
      exact rr11_done (B3.out.ext HX2.out).set2 (((hX.trans HX2.out).setNew (by simp; omega) _).setNew (by simp; omega) _) rfl _ _ rfl rfl
    · obtain ⟨⟨r0, r1⟩, r2, r3⟩ := (B3.out.ext HX2.out).two
      go_wp2
      exact rr11_done (B3.out.ext HX2.out).set2 (((hX.trans HX2.out).setNew (by simp; omega) _).setNew (by simp; omega) _) rfl _ _ rfl rfl
    have g10 := e10 w8 hq; have g11 := e11 w8 hq; have g12 := e12 w8 hq; have g13 := e13 w8 hq; have g14 := e14 w8 hq
    have g20 := e20 w8 hq; have g21 := e21 w8 hq; have g22 := e22 w8 hq; have g23 := e23 w8 hq; have g24 := e24 w8 hq
    have g30 := e30 w8 hq; have g31 := e31 w8 hq; have g32 := e32 w8 hq; have g33 := e33 w8 hq; have g34 := e34 w8 hq
    go_wp2_with fail
    refine (PI.out _).mono ?_
    rintro e w9 ⟨rfl, hy2⟩
    clear g10 g11 g12 g13 g14 g20 g21 g22 g23 g24 g30 g31 g32 g33 g34
    replace HX2 := Lib.hid (HX2.out.trans hy2)
    rcases hK.out with rfl | rfl | rfl
    all_goals
      obtain ⟨⟨r0, r1⟩, r2, r3⟩ := (B3.out.ext HX2.out).two
      go_wp2
      exact rr11_done (B3.out.ext HX2.out).set2 (((hX.trans HX2.out).setNew (by simp; omega) _).setNew (by simp; omega) _) rfl _ _ rfl rfl
  · have hq := Ext.refl w5
    have f0 := e00 w5 hq; have f1 := e01 w5 hq; have f2 := e22 w5 hq; have f3 := e23 w5 hq
    go_wp2_with fail
    refine (S1.out _).mono ?_
    rintro e w6 ⟨rfl, hy⟩
    replace hq := hq.trans hy
    clear hy f0 f1 f2 f3
    have f0 := e00 w6 hq; have f1 := e01 w6 hq; have f2 := e32 w6 hq; have f3 := e33 w6 hq
    go_wp2_with fail
    refine (S2.out _).mono ?_
    rintro e w7 ⟨rfl, hy⟩
    replace hq := hq.trans hy
    clear hy f0 f1 f2 f3
    clear S1 S2 hr
    have g20 := e20 w7 hq; have g21 := e21 w7 hq; have g22 := e22 w7 hq; have g23 := e23 w7 hq; have g24 := e24 w7 hq
    have g30 := e30 w7 hq; have g31 := e31 w7 hq; have g32 := e32 w7 hq; have g33 := e33 w7 hq; have g34 := e34 w7 hq
    go_wp2_with fail
    refine (PO.out _).mono ?_
    rintro e w8 ⟨rfl, hy⟩
    clear g20 g21 g22 g23 g24 g30 g31 g32 g33 g34
    replace hq := hq.trans hy
    have HX2 := Lib.hid (HX.out.trans hq)
    rcases hO.out with rfl | rfl | rfl | rfl
    rotate_left
    · obtain ⟨⟨r0, r1⟩, r2, r3⟩ := (B3.out.ext HX2.out).two
      go_wp2
      exact rr11_done (B3.out.ext HX2.out).set2 (((hX.trans HX2.out).setNew (by simp; omega) _).setNew (by simp; omega) _) rfl _ _ rfl rfl
    · obtain ⟨⟨r0, r1⟩, r2, r3⟩ := (B3.out.ext HX2.out).two
      go_wp2
      exact rr11_done (B3.out.ext HX2.out).set2 (((hX.trans HX2.out).setNew (by simp; omega) _).setNew (by simp; omega) _) rfl _ _ rfl rfl
    · obtain ⟨⟨r0, r1⟩, r2, r3⟩ := (B3.out.ext HX2.out).two
      go_wp2
      exact rr11_done (B3.out.ext HX2.out).set2 (((hX.trans HX2.out).setNew (by simp; omega) _).setNew (by simp; omega) _) rfl _ _ rfl rfl
    have g10 := e10 w8 hq; have g11 := e11 w8 hq; have g12 := e12 w8 hq; have g13 := e13 w8 hq; have g14 := e14 w8 hq
    have g20 := e20 w8 hq; have g21 := e21 w8 hq; have g22 := e22 w8 hq; have g23 := e23 w8 hq; have g24 := e24 w8 hq
    have g30 := e30 w8 hq; have g31 := e31 w8 hq; have g32 := e32 w8 hq; have g33 := e33 w8 hq; have g34 := e34 w8 hq
    go_wp2_with fail
    refine (PI.out _).mono ?_
    rintro e w9 ⟨rfl, hy2⟩
    clear g10 g11 g12 g13 g14 g20 g21 g22 g23 g24 g30 g31 g32 g33 g34
    replace HX2 := Lib.hid (HX2.out.trans hy2)
    rcases hK.out with rfl | rfl | rfl
    all_goals
      obtain ⟨⟨r0, r1⟩, r2, r3⟩ := (B3.out.ext HX2.out).two
      go_wp2
      exact rr11_done (B3.out.ext HX2.out).set2 (((hX.trans HX2.out).setNew (by simp; omega) _).setNew (by simp; omega) _) rfl _ _ rfl rfl
  · have hq := Ext.refl w5
    have f0 := e00 w5 hq; have f1 := e01 w5 hq; have f2 := e22 w5 hq; have f3 := e23 w5 hq
    go_wp2_with fail
    refine (S1.out _).mono ?_
    rintro e w6 ⟨rfl, hy⟩
    replace hq := hq.trans hy
    clear hy f0 f1 f2 f3
    have f0 := e00 w6 hq; have f1 := e01 w6 hq; have f2 := e32 w6 hq; have f3 := e33 w6 hq
    go_wp2_with fail
    refine (S2.out _).mono ?_
    rintro e w7 ⟨rfl, hy⟩
    replace hq := hq.trans hy
    clear hy f0 f1 f2 f3
    clear S1 S2 hr
    replace HX := Lib.hid (HX.out.trans hq)
    obtain ⟨⟨r0, r1⟩, r2, r3⟩ := (B3.out.ext HX.out).two
    go_wp2
    exact rr11_done (B3.out.ext HX.out).set2 (((hX.trans HX.out).setNew (by simp; omega) _).setNew (by simp; omega) _) rfl _ _ rfl rfl
end Go.Proofs.YtmlojndkpnhalaaGreat.Rom
namespace Go.Proofs.YtmlojndkpnhalaaGreat.Rom
open Go.ChangeShapes Go.WideShapes Go.ChangeAt Go.RowKit
open Go.Proofs.YtmlojndkpnhalaaGreat.Num Go.Proofs.YtmlojndkpnhalaaGreat.Kit Go.Proofs.YtmlojndkpnhalaaGreat.Pts Go.Proofs.YtmlojndkpnhalaaGreat.Seg Go.Proofs.YtmlojndkpnhalaaGreat.Wnd Go.Proofs.YtmlojndkpnhalaaGreat.Hul
open Go.Proofs.YtmlojndkpnhalaaGreat.Crs (MkV)
set_option linter.unusedVariables false
set_option linter.unusedSimpArgs false
end Go.Proofs.YtmlojndkpnhalaaGreat.Rom
