import Derived.Test.YtknelhceaoblhaaGreatMRoot
import Derived.Test.YtknelhceaoblhaaGreatMKit
import Derived.Test.YtknelhceaoblhaaGreatOrd
import Derived.Deep.DeepCutAuto
namespace Go.Proofs.YtknelhceaoblhaaGreat.Rsz
open Go.ChangeShapes Go.WideShapes Go.ChangeAt Go.RowKit
open Go.Proofs.YtknelhceaoblhaaGreat.Num Go.Proofs.YtknelhceaoblhaaGreat.Kit Go.Proofs.YtknelhceaoblhaaGreat.Pts Go.Proofs.YtknelhceaoblhaaGreat.Rt Go.Proofs.YtknelhceaoblhaaGreat.Root
open Go.Proofs.YtknelhceaoblhaaGreat.Lth (ln2 ln2_pos length_any sqs_bd)
set_option linter.unusedVariables false
set_option linter.unusedSimpArgs false
theorem rz_in (a b : Int) (w : World) (h1 : 1 ≤ b) (h2 : b ≤ 1000000000000000000) (h3 : -1000000000000000000 ≤ a) (h4 : a ≤ 1000000000000000000) :
    Calls Tryz.prog 199 #[.int .i64 a, .int .i64 b] w fun e w' => e = .returned (.tuple #[.int .i64 (flo a b), .int .i64 0]) ∧ Ext w w' := by
  refine (floorDiv_impl a b w).mono ?_
  rintro e w' ⟨rfl, rfl⟩
  exact ⟨ret_int2 (by unfold fdQ; rw [if_pos ⟨h1, h2, h3, h4⟩]) (by unfold fdC; rw [if_pos ⟨h1, h2, h3, h4⟩]), Ext.refl _⟩
set_option maxHeartbeats 2000000 in
theorem resized_any (x y l : Int) (w : World) (hx : -2000000 ≤ x ∧ x ≤ 2000000) (hy : -2000000 ≤ y ∧ y ≤ 2000000) (hl : -1000000 ≤ l ∧ l ≤ 1000000) (hn : ¬ (x = 0 ∧ y = 0)) :
    Calls Tryz.prog 183 #[Pt x y, .int .i64 l] w fun e w' => e = .returned (Pt (flo (x * l) (ln2 x y)) (flo (y * l) (ln2 x y))) ∧ Ext w w' := by
  have PL := Lib.hid (fun w => length_any x y w hx hy)
  obtain ⟨l1, l2⟩ := ln2_pos hx hy hn
  obtain ⟨a1, a2⟩ := mul_bd 2000000 1000000 hx hl
  obtain ⟨b1, b2⟩ := mul_bd 2000000 1000000 hy hl
  simp only [Int.reduceMul, Int.reduceNeg] at a1 a2 b1 b2
  obtain ⟨L, hL⟩ : ∃ L, L = ln2 x y := ⟨_, rfl⟩
  rw [← hL] at PL l1 l2 ⊢
  clear hL hn
  have PE := Lib.hid (fun w => rz_in (x * l) L w (by omega) (by omega) (by omega) (by omega))
  have PN := Lib.hid (fun w => rz_in (y * l) L w (by omega) (by omega) (by omega) (by omega))
  have T1 : IntKind.i64.wrap (x * l) = x * l := IntWalk.i64_in _ (by omega)
  have T2 : IntKind.i64.wrap (y * l) = y * l := IntWalk.i64_in _ (by omega)
  obtain ⟨E, hE⟩ : ∃ E, E = flo (x * l) L := ⟨_, rfl⟩
  obtain ⟨F, hF⟩ : ∃ F, F = flo (y * l) L := ⟨_, rfl⟩
  rw [← hE] at PE ⊢
  rw [← hF] at PN ⊢
  clear hE hF
  obtain ⟨W0, hW0⟩ : ∃ W0, W0 = (w.alloc (.cells #[.int .i64 x, .int .i64 y] 113)).alloc (.cells #[.int .i64 0, .int .i64 0] 113) := ⟨_, rfl⟩
  have hX : Ext w W0 := hW0 ▸ (((Ext.refl w).alloc _).alloc _)
  have hs0 : W0.heap.size = w.heap.size + 1 + 1 := by rw [hW0]; simp
  have e00 : ∀ w', (Ext W0) w' → w'.cell? ⟨w.heap.size, 0, none⟩ = some (.int .i64 x) := fun w' h => h.cellOf (by rw [hW0]; exact ((Ext.refl _).alloc _).cellOf (boxed 0 rfl (by simp)))
  have e01 : ∀ w', (Ext W0) w' → w'.cell? ⟨w.heap.size, 1, none⟩ = some (.int .i64 y) := fun w' h => h.cellOf (by rw [hW0]; exact ((Ext.refl _).alloc _).cellOf (boxed 1 rfl (by simp)))
  have e10 : ∀ w', (Ext W0) w' → w'.cell? ⟨w.heap.size + 1, 0, none⟩ = some (.int .i64 0) := fun w' h => h.cellOf (by rw [hW0]; exact boxed 0 rfl (by simp))
  have e11 : ∀ w', (Ext W0) w' → w'.cell? ⟨w.heap.size + 1, 1, none⟩ = some (.int .i64 0) := fun w' h => h.cellOf (by rw [hW0]; exact boxed 1 rfl (by simp))
  have B2 := Lib.hid (show Box W0 (w.heap.size + 1) [.int .i64 0, .int .i64 0] from hW0 ▸ Box.new2 (by simp))
  go_enter Tryz.func183, Tryz.ntmps183
  go_wp2_with fail
  rw [← hW0]
  clear hW0
  have hr := Ext.refl W0
  refine wp_region_held_drew (S := (fun w' => Ext W0 w')) (by kernel_rfl) (by (try dsimp only); first | go_keep | exact (Ext.refl _).drew | exact Res.new2.drew | exact Res.new4.drew | exact ResB.drew (by assumption) | exact ResC.drew (by assumption) | assumption | exact Ext.drew (by assumption) | exact Res.drew (by assumption)) (fun hHeld => ?_)
  refine Ord.K 0 10 ?_
  refine Ord.K 1 11 ?_
  refine Ord.K 2 12 ?_
  refine Ord.K 3 13 ?_
  refine Ord.K 4 14 ?_
  (refine wpAnyH_ready (rs := [5]) (by kernel_rfl) (by simp) ?_; refine AllReadyH.cons rfl (fun K hK => ?_) AllReadyH.nil; go_simp; (first | (go_at_call 200; refine (PL.out _).mono ?_; rintro e w4 ⟨rfl, hy⟩) | (go_at_call 199; refine (PE.out _).mono ?_; rintro e w4 ⟨rfl, hy⟩)); go_wp2_with fail; (refine hK.out _ _ (by first | assumption | exact Ext.trans (by assumption) hy | exact Res.ext (by assumption) hy | exact ResB.ext (by assumption) hy | exact ResC.ext (by assumption) hy | (go_split_ands; (repeat' apply And.intro) <;> exact Ext.cellOf hy (by assumption))) (fun hHeld => ?_)); clear hK K; (try simp only [Act.put, Ord.a, Ord.b, Ord.c]))
  (refine wpAnyH_ready (rs := [6]) (by kernel_rfl) (by simp) ?_; refine AllReadyH.cons rfl (fun K hK => ?_) AllReadyH.nil; go_simp; (first | (go_at_call 200; refine (PL.out _).mono ?_; rintro e w4 ⟨rfl, hy⟩) | (go_at_call 199; refine (PE.out _).mono ?_; rintro e w4 ⟨rfl, hy⟩)); go_wp2_with fail; (refine hK.out _ _ (by first | assumption | exact Ext.trans (by assumption) hy | exact Res.ext (by assumption) hy | exact ResB.ext (by assumption) hy | exact ResC.ext (by assumption) hy | (go_split_ands; (repeat' apply And.intro) <;> exact Ext.cellOf hy (by assumption))) (fun hHeld => ?_)); clear hK K; (try simp only [Act.put, Ord.a, Ord.b, Ord.c]))
  refine Ord.K 7 9 ?_
  refine Ord.K 8 17 ?_
  refine Ord.K 9 18 ?_
  refine Ord.K 10 5 ?_
  refine Ord.K 11 6 ?_
  refine wpAnyH_done (by kernel_rfl) ?_ _
  go_wp2_with fail
  refine wp_region_held_drew (S := (fun w' => Ext W0 w')) (by kernel_rfl) (by (try dsimp only); first | go_keep | exact (Ext.refl _).drew | exact Res.new2.drew | exact Res.new4.drew | exact ResB.drew (by assumption) | exact ResC.drew (by assumption) | assumption | exact Ext.drew (by assumption) | exact Res.drew (by assumption)) (fun hHeld => ?_)
  refine Ord.K 0 20 ?_
  refine Ord.K 1 21 ?_
  refine Ord.K 2 22 ?_
  refine Ord.K 3 23 ?_
  refine Ord.K 4 24 ?_
  (refine wpAnyH_ready (rs := [5]) (by kernel_rfl) (by simp) ?_; refine AllReadyH.cons rfl (fun K hK => ?_) AllReadyH.nil; go_simp; (first | (go_at_call 200; refine (PL.out _).mono ?_; rintro e w4 ⟨rfl, hy⟩) | (go_at_call 199; refine (PN.out _).mono ?_; rintro e w4 ⟨rfl, hy⟩)); go_wp2_with fail; (refine hK.out _ _ (by first | assumption | exact Ext.trans (by assumption) hy | exact Res.ext (by assumption) hy | exact ResB.ext (by assumption) hy | exact ResC.ext (by assumption) hy | (go_split_ands; (repeat' apply And.intro) <;> exact Ext.cellOf hy (by assumption))) (fun hHeld => ?_)); clear hK K; (try simp only [Act.put, Ord.a, Ord.b, Ord.c]))
  (refine wpAnyH_ready (rs := [6]) (by kernel_rfl) (by simp) ?_; refine AllReadyH.cons rfl (fun K hK => ?_) AllReadyH.nil; go_simp; (first | (go_at_call 200; refine (PL.out _).mono ?_; rintro e w4 ⟨rfl, hy⟩) | (go_at_call 199; refine (PN.out _).mono ?_; rintro e w4 ⟨rfl, hy⟩)); go_wp2_with fail; (refine hK.out _ _ (by first | assumption | exact Ext.trans (by assumption) hy | exact Res.ext (by assumption) hy | exact ResB.ext (by assumption) hy | exact ResC.ext (by assumption) hy | (go_split_ands; (repeat' apply And.intro) <;> exact Ext.cellOf hy (by assumption))) (fun hHeld => ?_)); clear hK K; (try simp only [Act.put, Ord.a, Ord.b, Ord.c]))
  refine Ord.K 7 19 ?_
  refine Ord.K 8 27 ?_
  refine Ord.K 9 28 ?_
  refine Ord.K 10 7 ?_
  refine Ord.K 11 8 ?_
  refine wpAnyH_done (by kernel_rfl) ?_ _
  obtain ⟨⟨r0, r1⟩, r2, r3⟩ := (B2.out.ext (by assumption)).two
  have BR := Lib.hid ((B2.out.ext (by assumption)).set2 (u := .int .i64 E) (v := .int .i64 F))
  go_wp2
  obtain ⟨⟨g0, g1⟩, _⟩ := BR.out.two
  exact bodyPost_ret (v := Pt E F) (by simp [results, Tryz.results183, go_sem, g0, g1]) rfl ⟨rfl, ((hX.trans (by assumption)).setNew (by first | omega | (simp; omega) | simp) _).setNew (by first | omega | (simp; omega) | simp) _⟩
end Go.Proofs.YtknelhceaoblhaaGreat.Rsz
