/- Room at marks (chapter 11), both: the inside boat, who beats, the room between two hulls. -/
import Derived.Test.YtcangdcakgcpaaaRmw
import Derived.Test.YtcangdcakgcpaaaHul6
import Derived.Test.YtcangdcakgcpaaaMks
namespace Go.Proofs.Ytcangdcakgcpaaa.Rom
open Go.ChangeShapes Go.WideShapes Go.ChangeAt Go.RowKit
open Go.Proofs.Ytcangdcakgcpaaa.Num Go.Proofs.Ytcangdcakgcpaaa.Kit Go.Proofs.Ytcangdcakgcpaaa.Pts Go.Proofs.Ytcangdcakgcpaaa.Seg Go.Proofs.Ytcangdcakgcpaaa.Wnd Go.Proofs.Ytcangdcakgcpaaa.Hul
open Go.Proofs.Ytcangdcakgcpaaa.Crs (MkV)
set_option linter.unusedVariables false
set_option linter.unusedSimpArgs false

theorem co_bd {x : Int} (h : Co x) : -1000000 ≤ x ∧ x ≤ 1000000 := h

set_option maxHeartbeats 1000000 in
theorem insideHull_any (N : ByteArray) (X Y S Z a b c d n p q u v m : Int) (w : World) (hX' : Co X) (hY' : Co Y) (ha : Co a) (hb : Co b) (hp : Co p) (hq : Co q) :
    Calls Try.prog 65 #[MkV N X Y S Z, Hv a b c d n, Hv p q u v m] w fun e w' => e = .returned (.int .i64 (inN a b p q X Y)) ∧ Ext w w' := by
  unfold Co at hX' hY' ha hb hp hq
  have VA := Lib.hid (fun w => vectorTo_any a b X Y w ha hb hX' hY')
  have VB := Lib.hid (fun w => vectorTo_any p q X Y w hp hq hX' hY')
  have SA := Lib.hid (fun w => show Calls Try.prog 94 #[Pt (X - a) (Y - b)] w (fun e w' => e = .returned (.int .i64 (sqD a b X Y)) ∧ Ext w w') from squareLength_any (X - a) (Y - b) w (by omega) (by omega))
  have SB := Lib.hid (fun w => show Calls Try.prog 94 #[Pt (X - p) (Y - q)] w (fun e w' => e = .returned (.int .i64 (sqD p q X Y)) ∧ Ext w w') from squareLength_any (X - p) (Y - q) w (by omega) (by omega))
  have PL := Lib.hid (fun w => hullWithLess_any (sqD a b X Y) (sqD p q X Y) w)
  unfold inN
  generalize wwN (sqD a b X Y) (sqD p q X Y) = K at *
  generalize sqD a b X Y = s at *
  generalize sqD p q X Y = t at *
  generalize X - a = i at *
  generalize Y - b = j at *
  generalize X - p = k at *
  generalize Y - q = l at *
  clear ha hb hp hq hX' hY'
  obtain ⟨W0, hW0⟩ : ∃ W0, W0 = ((w.alloc (.cells #[.string N, .int .i64 X, .int .i64 Y, .int .i64 S, .int .i64 Z] 45)).alloc (.cells #[.int .i64 a, .int .i64 b, .int .i64 c, .int .i64 d, .int .i64 n] 39)).alloc (.cells #[.int .i64 p, .int .i64 q, .int .i64 u, .int .i64 v, .int .i64 m] 39) := ⟨_, rfl⟩
  have hX : Ext w W0 := hW0 ▸ ((((Ext.refl w).alloc _).alloc _).alloc _)
  have hs0 : W0.heap.size = w.heap.size + 1 + 1 + 1 := by rw [hW0]; simp
  have e00 : ∀ w', (Ext W0) w' → w'.cell? ⟨w.heap.size, 0, none⟩ = some (.string N) := fun w' h => h.cellOf (by rw [hW0]; exact (((Ext.refl _).alloc _).alloc _).cellOf (boxed 0 rfl (by simp)))
  have e01 : ∀ w', (Ext W0) w' → w'.cell? ⟨w.heap.size, 1, none⟩ = some (.int .i64 X) := fun w' h => h.cellOf (by rw [hW0]; exact (((Ext.refl _).alloc _).alloc _).cellOf (boxed 1 rfl (by simp)))
  have e02 : ∀ w', (Ext W0) w' → w'.cell? ⟨w.heap.size, 2, none⟩ = some (.int .i64 Y) := fun w' h => h.cellOf (by rw [hW0]; exact (((Ext.refl _).alloc _).alloc _).cellOf (boxed 2 rfl (by simp)))
  have e03 : ∀ w', (Ext W0) w' → w'.cell? ⟨w.heap.size, 3, none⟩ = some (.int .i64 S) := fun w' h => h.cellOf (by rw [hW0]; exact (((Ext.refl _).alloc _).alloc _).cellOf (boxed 3 rfl (by simp)))
  have e04 : ∀ w', (Ext W0) w' → w'.cell? ⟨w.heap.size, 4, none⟩ = some (.int .i64 Z) := fun w' h => h.cellOf (by rw [hW0]; exact (((Ext.refl _).alloc _).alloc _).cellOf (boxed 4 rfl (by simp)))
  have e10 : ∀ w', (Ext W0) w' → w'.cell? ⟨w.heap.size + 1, 0, none⟩ = some (.int .i64 a) := fun w' h => h.cellOf (by rw [hW0]; exact ((Ext.refl _).alloc _).cellOf (boxed 0 rfl (by simp)))
  have e11 : ∀ w', (Ext W0) w' → w'.cell? ⟨w.heap.size + 1, 1, none⟩ = some (.int .i64 b) := fun w' h => h.cellOf (by rw [hW0]; exact ((Ext.refl _).alloc _).cellOf (boxed 1 rfl (by simp)))
  have e12 : ∀ w', (Ext W0) w' → w'.cell? ⟨w.heap.size + 1, 2, none⟩ = some (.int .i64 c) := fun w' h => h.cellOf (by rw [hW0]; exact ((Ext.refl _).alloc _).cellOf (boxed 2 rfl (by simp)))
  have e13 : ∀ w', (Ext W0) w' → w'.cell? ⟨w.heap.size + 1, 3, none⟩ = some (.int .i64 d) := fun w' h => h.cellOf (by rw [hW0]; exact ((Ext.refl _).alloc _).cellOf (boxed 3 rfl (by simp)))
  have e14 : ∀ w', (Ext W0) w' → w'.cell? ⟨w.heap.size + 1, 4, none⟩ = some (.int .i64 n) := fun w' h => h.cellOf (by rw [hW0]; exact ((Ext.refl _).alloc _).cellOf (boxed 4 rfl (by simp)))
  have e20 : ∀ w', (Ext W0) w' → w'.cell? ⟨w.heap.size + 1 + 1, 0, none⟩ = some (.int .i64 p) := fun w' h => h.cellOf (by rw [hW0]; exact boxed 0 rfl (by simp))
  have e21 : ∀ w', (Ext W0) w' → w'.cell? ⟨w.heap.size + 1 + 1, 1, none⟩ = some (.int .i64 q) := fun w' h => h.cellOf (by rw [hW0]; exact boxed 1 rfl (by simp))
  have e22 : ∀ w', (Ext W0) w' → w'.cell? ⟨w.heap.size + 1 + 1, 2, none⟩ = some (.int .i64 u) := fun w' h => h.cellOf (by rw [hW0]; exact boxed 2 rfl (by simp))
  have e23 : ∀ w', (Ext W0) w' → w'.cell? ⟨w.heap.size + 1 + 1, 3, none⟩ = some (.int .i64 v) := fun w' h => h.cellOf (by rw [hW0]; exact boxed 3 rfl (by simp))
  have e24 : ∀ w', (Ext W0) w' → w'.cell? ⟨w.heap.size + 1 + 1, 4, none⟩ = some (.int .i64 m) := fun w' h => h.cellOf (by rw [hW0]; exact boxed 4 rfl (by simp))
  have hr := Ext.refl W0
  go_enter Try.func65, Try.ntmps65
  go_wp2_with fail
  rw [← hW0]
  clear hW0
  refine wp_region_held_drew (S := (fun w' => Ext W0 w')) (by kernel_rfl) (by (try dsimp only); first | go_keep | exact (Ext.refl _).drew | exact Res.new2.drew | exact Res.new4.drew | exact ResB.drew (by assumption) | exact ResC.drew (by assumption) | assumption | exact Ext.drew (by assumption) | exact Res.drew (by assumption)) (fun hHeld => ?_)
  refine Ord.K 0 7 ?_
  refine Ord.K 1 8 ?_
  refine Ord.K 2 9 ?_
  refine Ord.K 3 10 ?_
  refine Ord.K 6 13 ?_
  refine Ord.K 7 14 ?_
  refine Ord.K 8 15 ?_
  refine Ord.K 9 16 ?_
  (refine wpAnyH_ready (rs := [4]) (by kernel_rfl) (by simp) ?_; refine AllReadyH.cons rfl (fun K hK => ?_) AllReadyH.nil; go_simp; (first | (go_at_call 93; with_reducible refine (VA.out _).mono ?_; rintro e w4 ⟨rfl, hy⟩) | (go_at_call 93; with_reducible refine (VB.out _).mono ?_; rintro e w4 ⟨rfl, hy⟩) | (go_at_call 94; with_reducible refine (SA.out _).mono ?_; rintro e w4 ⟨rfl, hy⟩) | (go_at_call 94; with_reducible refine (SB.out _).mono ?_; rintro e w4 ⟨rfl, hy⟩) | (go_at_call 92; refine (PL.out _).mono ?_; rintro e w4 ⟨rfl, rfl⟩)); go_wp2_with fail; (refine hK.out _ _ (by first | assumption | exact Ext.trans (by assumption) hy | exact Res.ext (by assumption) hy | exact ResB.ext (by assumption) hy | exact ResC.ext (by assumption) hy | (go_split_ands; (repeat' apply And.intro) <;> exact Ext.cellOf hy (by assumption))) (fun hHeld => ?_)); clear hK K; (try simp only [Act.put, Ord.a, Ord.b, Ord.c]))
  (refine wpAnyH_ready (rs := [5]) (by kernel_rfl) (by simp) ?_; refine AllReadyH.cons rfl (fun K hK => ?_) AllReadyH.nil; go_simp; (first | (go_at_call 93; with_reducible refine (VA.out _).mono ?_; rintro e w4 ⟨rfl, hy⟩) | (go_at_call 93; with_reducible refine (VB.out _).mono ?_; rintro e w4 ⟨rfl, hy⟩) | (go_at_call 94; with_reducible refine (SA.out _).mono ?_; rintro e w4 ⟨rfl, hy⟩) | (go_at_call 94; with_reducible refine (SB.out _).mono ?_; rintro e w4 ⟨rfl, hy⟩) | (go_at_call 92; refine (PL.out _).mono ?_; rintro e w4 ⟨rfl, rfl⟩)); go_wp2_with fail; (refine hK.out _ _ (by first | assumption | exact Ext.trans (by assumption) hy | exact Res.ext (by assumption) hy | exact ResB.ext (by assumption) hy | exact ResC.ext (by assumption) hy | (go_split_ands; (repeat' apply And.intro) <;> exact Ext.cellOf hy (by assumption))) (fun hHeld => ?_)); clear hK K; (try simp only [Act.put, Ord.a, Ord.b, Ord.c]))
  (refine wpAnyH_ready (rs := [10]) (by kernel_rfl) (by simp) ?_; refine AllReadyH.cons rfl (fun K hK => ?_) AllReadyH.nil; go_simp; (first | (go_at_call 93; with_reducible refine (VA.out _).mono ?_; rintro e w4 ⟨rfl, hy⟩) | (go_at_call 93; with_reducible refine (VB.out _).mono ?_; rintro e w4 ⟨rfl, hy⟩) | (go_at_call 94; with_reducible refine (SA.out _).mono ?_; rintro e w4 ⟨rfl, hy⟩) | (go_at_call 94; with_reducible refine (SB.out _).mono ?_; rintro e w4 ⟨rfl, hy⟩) | (go_at_call 92; refine (PL.out _).mono ?_; rintro e w4 ⟨rfl, rfl⟩)); go_wp2_with fail; (refine hK.out _ _ (by first | assumption | exact Ext.trans (by assumption) hy | exact Res.ext (by assumption) hy | exact ResB.ext (by assumption) hy | exact ResC.ext (by assumption) hy | (go_split_ands; (repeat' apply And.intro) <;> exact Ext.cellOf hy (by assumption))) (fun hHeld => ?_)); clear hK K; (try simp only [Act.put, Ord.a, Ord.b, Ord.c]))
  (refine wpAnyH_ready (rs := [11]) (by kernel_rfl) (by simp) ?_; refine AllReadyH.cons rfl (fun K hK => ?_) AllReadyH.nil; go_simp; (first | (go_at_call 93; with_reducible refine (VA.out _).mono ?_; rintro e w4 ⟨rfl, hy⟩) | (go_at_call 93; with_reducible refine (VB.out _).mono ?_; rintro e w4 ⟨rfl, hy⟩) | (go_at_call 94; with_reducible refine (SA.out _).mono ?_; rintro e w4 ⟨rfl, hy⟩) | (go_at_call 94; with_reducible refine (SB.out _).mono ?_; rintro e w4 ⟨rfl, hy⟩) | (go_at_call 92; refine (PL.out _).mono ?_; rintro e w4 ⟨rfl, rfl⟩)); go_wp2_with fail; (refine hK.out _ _ (by first | assumption | exact Ext.trans (by assumption) hy | exact Res.ext (by assumption) hy | exact ResB.ext (by assumption) hy | exact ResC.ext (by assumption) hy | (go_split_ands; (repeat' apply And.intro) <;> exact Ext.cellOf hy (by assumption))) (fun hHeld => ?_)); clear hK K; (try simp only [Act.put, Ord.a, Ord.b, Ord.c]))
  (refine wpAnyH_ready (rs := [12]) (by kernel_rfl) (by simp) ?_; refine AllReadyH.cons rfl (fun K hK => ?_) AllReadyH.nil; go_simp; (first | (go_at_call 93; with_reducible refine (VA.out _).mono ?_; rintro e w4 ⟨rfl, hy⟩) | (go_at_call 93; with_reducible refine (VB.out _).mono ?_; rintro e w4 ⟨rfl, hy⟩) | (go_at_call 94; with_reducible refine (SA.out _).mono ?_; rintro e w4 ⟨rfl, hy⟩) | (go_at_call 94; with_reducible refine (SB.out _).mono ?_; rintro e w4 ⟨rfl, hy⟩) | (go_at_call 92; refine (PL.out _).mono ?_; rintro e w4 ⟨rfl, rfl⟩)); go_wp2_with fail; (refine hK.out _ _ (by first | assumption | exact Ext.trans (by assumption) hy | exact Res.ext (by assumption) hy | exact ResB.ext (by assumption) hy | exact ResC.ext (by assumption) hy | (go_split_ands; (repeat' apply And.intro) <;> exact Ext.cellOf hy (by assumption))) (fun hHeld => ?_)); clear hK K; (try simp only [Act.put, Ord.a, Ord.b, Ord.c]))
  refine Ord.K 13 6 ?_
  refine wpAnyH_done (by kernel_rfl) ?_ _
  go_wp2
  go_ret
  exact ⟨rfl, hX.trans (by assumption)⟩

set_option maxHeartbeats 1000000 in
theorem insideS_any (X Y a b c d n p q u v m : Int) (w : World) (hX' : Co X) (hY' : Co Y) (ha : Co a) (hb : Co b) (hp : Co p) (hq : Co q) :
    Calls Try.prog 66 #[Pt X Y, Hv a b c d n, Hv p q u v m] w fun e w' => e = .returned (.int .i64 (inN a b p q X Y)) ∧ Ext w w' := by
  unfold Co at hX' hY' ha hb hp hq
  have SA := Lib.hid (fun w => square_any a b X Y w ha hb hX' hY')
  have SB := Lib.hid (fun w => square_any p q X Y w hp hq hX' hY')
  have key : sqD a b X Y < sqD p q X Y ∨ (¬ sqD a b X Y < sqD p q X Y ∧ sqD p q X Y < sqD a b X Y) ∨ (¬ sqD a b X Y < sqD p q X Y ∧ ¬ sqD p q X Y < sqD a b X Y) := by omega
  unfold inN
  generalize sqD a b X Y = s at *
  generalize sqD p q X Y = t at *
  clear ha hb hp hq hX' hY'
  obtain ⟨W0, hW0⟩ : ∃ W0, W0 = ((w.alloc (.cells #[.int .i64 X, .int .i64 Y] 37)).alloc (.cells #[.int .i64 a, .int .i64 b, .int .i64 c, .int .i64 d, .int .i64 n] 39)).alloc (.cells #[.int .i64 p, .int .i64 q, .int .i64 u, .int .i64 v, .int .i64 m] 39) := ⟨_, rfl⟩
  have hX : Ext w W0 := hW0 ▸ ((((Ext.refl w).alloc _).alloc _).alloc _)
  have hs0 : W0.heap.size = w.heap.size + 1 + 1 + 1 := by rw [hW0]; simp
  have e00 : ∀ w', (Ext W0) w' → w'.cell? ⟨w.heap.size, 0, none⟩ = some (.int .i64 X) := fun w' h => h.cellOf (by rw [hW0]; exact (((Ext.refl _).alloc _).alloc _).cellOf (boxed 0 rfl (by simp)))
  have e01 : ∀ w', (Ext W0) w' → w'.cell? ⟨w.heap.size, 1, none⟩ = some (.int .i64 Y) := fun w' h => h.cellOf (by rw [hW0]; exact (((Ext.refl _).alloc _).alloc _).cellOf (boxed 1 rfl (by simp)))
  have e10 : ∀ w', (Ext W0) w' → w'.cell? ⟨w.heap.size + 1, 0, none⟩ = some (.int .i64 a) := fun w' h => h.cellOf (by rw [hW0]; exact ((Ext.refl _).alloc _).cellOf (boxed 0 rfl (by simp)))
  have e11 : ∀ w', (Ext W0) w' → w'.cell? ⟨w.heap.size + 1, 1, none⟩ = some (.int .i64 b) := fun w' h => h.cellOf (by rw [hW0]; exact ((Ext.refl _).alloc _).cellOf (boxed 1 rfl (by simp)))
  have e12 : ∀ w', (Ext W0) w' → w'.cell? ⟨w.heap.size + 1, 2, none⟩ = some (.int .i64 c) := fun w' h => h.cellOf (by rw [hW0]; exact ((Ext.refl _).alloc _).cellOf (boxed 2 rfl (by simp)))
  have e13 : ∀ w', (Ext W0) w' → w'.cell? ⟨w.heap.size + 1, 3, none⟩ = some (.int .i64 d) := fun w' h => h.cellOf (by rw [hW0]; exact ((Ext.refl _).alloc _).cellOf (boxed 3 rfl (by simp)))
  have e14 : ∀ w', (Ext W0) w' → w'.cell? ⟨w.heap.size + 1, 4, none⟩ = some (.int .i64 n) := fun w' h => h.cellOf (by rw [hW0]; exact ((Ext.refl _).alloc _).cellOf (boxed 4 rfl (by simp)))
  have e20 : ∀ w', (Ext W0) w' → w'.cell? ⟨w.heap.size + 1 + 1, 0, none⟩ = some (.int .i64 p) := fun w' h => h.cellOf (by rw [hW0]; exact boxed 0 rfl (by simp))
  have e21 : ∀ w', (Ext W0) w' → w'.cell? ⟨w.heap.size + 1 + 1, 1, none⟩ = some (.int .i64 q) := fun w' h => h.cellOf (by rw [hW0]; exact boxed 1 rfl (by simp))
  have e22 : ∀ w', (Ext W0) w' → w'.cell? ⟨w.heap.size + 1 + 1, 2, none⟩ = some (.int .i64 u) := fun w' h => h.cellOf (by rw [hW0]; exact boxed 2 rfl (by simp))
  have e23 : ∀ w', (Ext W0) w' → w'.cell? ⟨w.heap.size + 1 + 1, 3, none⟩ = some (.int .i64 v) := fun w' h => h.cellOf (by rw [hW0]; exact boxed 3 rfl (by simp))
  have e24 : ∀ w', (Ext W0) w' → w'.cell? ⟨w.heap.size + 1 + 1, 4, none⟩ = some (.int .i64 m) := fun w' h => h.cellOf (by rw [hW0]; exact boxed 4 rfl (by simp))
  have hr := Ext.refl W0
  go_enter Try.func66, Try.ntmps66
  go_wp2_with fail
  rw [← hW0]
  clear hW0
  rcases key with h4 | ⟨h4, h5⟩ | ⟨h4, h5⟩
  all_goals
    have HV := Lib.hid (show wwN s t = _ from by first | exact ww_lt h4 | exact ww_gt h5 | exact ww_eq (by omega) (by omega))
    refine wp_region_held_drew (S := (fun w' => Ext W0 w')) (by kernel_rfl) (by (try dsimp only); first | go_keep | exact (Ext.refl _).drew | exact Res.new2.drew | exact Res.new4.drew | exact ResB.drew (by assumption) | exact ResC.drew (by assumption) | assumption | exact Ext.drew (by assumption) | exact Res.drew (by assumption)) (fun hHeld => ?_)
    refine Ord.K 0 9 ?_
    refine Ord.K 1 10 ?_
    refine Ord.K 2 11 ?_
    refine Ord.K 4 13 ?_
    refine Ord.K 5 14 ?_
    refine Ord.K 6 15 ?_
    (refine wpAnyH_ready (rs := [3]) (by kernel_rfl) (by simp) ?_; refine AllReadyH.cons rfl (fun K hK => ?_) AllReadyH.nil; go_simp; (first | (go_at_call 95; with_reducible refine (SA.out _).mono ?_; rintro e w4 ⟨rfl, hy⟩) | (go_at_call 95; with_reducible refine (SB.out _).mono ?_; rintro e w4 ⟨rfl, hy⟩)); go_wp2_with fail; (refine hK.out _ _ (by first | assumption | exact Ext.trans (by assumption) hy | exact Res.ext (by assumption) hy | exact ResB.ext (by assumption) hy | exact ResC.ext (by assumption) hy | (go_split_ands; (repeat' apply And.intro) <;> exact Ext.cellOf hy (by assumption))) (fun hHeld => ?_)); clear hK K; (try simp only [Act.put, Ord.a, Ord.b, Ord.c]))
    (refine wpAnyH_ready (rs := [7]) (by kernel_rfl) (by simp) ?_; refine AllReadyH.cons rfl (fun K hK => ?_) AllReadyH.nil; go_simp; (first | (go_at_call 95; with_reducible refine (SA.out _).mono ?_; rintro e w4 ⟨rfl, hy⟩) | (go_at_call 95; with_reducible refine (SB.out _).mono ?_; rintro e w4 ⟨rfl, hy⟩)); go_wp2_with fail; (refine hK.out _ _ (by first | assumption | exact Ext.trans (by assumption) hy | exact Res.ext (by assumption) hy | exact ResB.ext (by assumption) hy | exact ResC.ext (by assumption) hy | (go_split_ands; (repeat' apply And.intro) <;> exact Ext.cellOf hy (by assumption))) (fun hHeld => ?_)); clear hK K; (try simp only [Act.put, Ord.a, Ord.b, Ord.c]))
    refine Ord.K 8 7 ?_
    refine Ord.K 9 8 ?_
    refine wpAnyH_done (by kernel_rfl) ?_ _
    go_wp2
    go_ret
    exact ⟨ret_int HV.out, hX.trans (by assumption)⟩

end Go.Proofs.Ytcangdcakgcpaaa.Rom
