/- Contracts of SideAt (impl, spec). -/
import Derived.Test.YtichcamknpccpaaPos
import Derived.Test.YtichcamknpccpaaLin
import Derived.Test.YtichcamknpccpaaPosMath
namespace Go.Proofs.Ytichcamknpccpaa.Trk
open Go.ChangeShapes Go.WideShapes Go.ChangeAt Go.RowKit
open Go.Proofs.Ytichcamknpccpaa.Num Go.Proofs.Ytichcamknpccpaa.Kit Go.Proofs.Ytichcamknpccpaa.Pts Go.Proofs.Ytichcamknpccpaa.Seg Go.Proofs.Ytichcamknpccpaa.Crs
set_option linter.unusedVariables false
set_option linter.unusedSimpArgs false

/-- What SideAt answers: the side and the code. -/
def siC (fs : List F3) (a b c d t : Int) : Int := if (trB fs && sgB a b c d) = true then (if lastB fs t = true then 0 else 2) else 1
def siQ (fs : List F3) (a b c d t : Int) : Int := if siC fs a b c d t = 0 then trn a b c d (pkX fs t (legOf fs t)) (pkY fs t (legOf fs t)) else 0
theorem siC_one {fs : List F3} {a b c d t : Int} (h : (trB fs && sgB a b c d) = false) : siC fs a b c d t = 1 := if_neg (by simp only [h]; decide)
theorem siC_two {fs : List F3} {a b c d t : Int} (h1 : trB fs = true) (h2 : sgB a b c d = true) (h : lastB fs t = false) : siC fs a b c d t = 2 := (if_pos (by rw [h1, h2]; rfl)).trans (if_neg (by simp only [h]; decide))
theorem siC_none {fs : List F3} {a b c d t : Int} (h1 : trB fs = true) (h2 : sgB a b c d = true) (h : lastB fs t = true) : siC fs a b c d t = 0 := (if_pos (by rw [h1, h2]; rfl)).trans (if_pos h)
theorem siQ_no {fs : List F3} {a b c d t : Int} (h : siC fs a b c d t = 1 ∨ siC fs a b c d t = 2) : siQ fs a b c d t = 0 := if_neg (by omega)
theorem siQ_yes {fs : List F3} {a b c d t : Int} (h : siC fs a b c d t = 0) : siQ fs a b c d t = trn a b c d (pkX fs t (legOf fs t)) (pkY fs t (legOf fs t)) := if_pos h

theorem pk_Co {fs : List F3} {t : Int} (hv : trB fs = true) (hl : lastB fs t = true) : Co (pkX fs t (legOf fs t)) ∧ Co (pkY fs t (legOf fs t)) := by
  obtain ⟨⟨h2, _⟩, _⟩ := trB_yes hv
  have hk := legOf_lt t h2
  obtain ⟨⟨ca, cb, cc, cd⟩, _⟩ := leg_bounds hv hk
  obtain ⟨hx, hy⟩ := pk_between hv hl
  exact ⟨by omega, by omega⟩

set_option maxHeartbeats 1000000 in
theorem sideAt_spec (a₀ : Option Addr) (cap : Nat) (fs : List F3) (a b c d t : Int) (w : World) (hf : Fxs w a₀ fs) :
    Calls Try.prog 49 #[Tr (.slice a₀ fs.length cap), Sg a b c d, .int .i64 t] w fun e w' => e = .returned (.tuple #[.int .i64 (siQ fs a b c d t), .int .i64 (siC fs a b c d t)]) ∧ Ext w w' := by
  obtain ⟨W0, hW0⟩ : ∃ W0, W0 = (w.alloc (.cells #[.slice a₀ fs.length cap] 35)).alloc (.cells #[.int .i64 a, .int .i64 b, .int .i64 c, .int .i64 d] 27) := ⟨_, rfl⟩
  have hX : Ext w W0 := hW0 ▸ (((Ext.refl w).alloc _).alloc _)
  have hs0 : W0.heap.size = w.heap.size + 1 + 1 := by rw [hW0]; simp
  have e00 : ∀ w', (Ext W0) w' → w'.cell? ⟨w.heap.size, 0, none⟩ = some (.slice a₀ fs.length cap) := fun w' h => h.cellOf (by rw [hW0]; exact ((Ext.refl _).alloc _).cellOf (boxed 0 rfl (by simp)))
  have e10 : ∀ w', (Ext W0) w' → w'.cell? ⟨w.heap.size + 1, 0, none⟩ = some (.int .i64 a) := fun w' h => h.cellOf (by rw [hW0]; exact boxed 0 rfl (by simp))
  have e11 : ∀ w', (Ext W0) w' → w'.cell? ⟨w.heap.size + 1, 1, none⟩ = some (.int .i64 b) := fun w' h => h.cellOf (by rw [hW0]; exact boxed 1 rfl (by simp))
  have e12 : ∀ w', (Ext W0) w' → w'.cell? ⟨w.heap.size + 1, 2, none⟩ = some (.int .i64 c) := fun w' h => h.cellOf (by rw [hW0]; exact boxed 2 rfl (by simp))
  have e13 : ∀ w', (Ext W0) w' → w'.cell? ⟨w.heap.size + 1, 3, none⟩ = some (.int .i64 d) := fun w' h => h.cellOf (by rw [hW0]; exact boxed 3 rfl (by simp))
  have HF := Lib.hid hf
  clear hf
  go_enter Try.func49, Try.ntmps49
  go_wp2_with fail
  refine (isTrack_spec _ _ _ _ (HF.out.ext (by rw [← hW0]; exact hX))).mono ?_
  rintro e w1 ⟨rfl, h1⟩
  rw [← hW0] at h1
  clear hW0
  cases hv : trB fs
  · have HC := Lib.hid (siC_one (fs := fs) (a := a) (b := b) (c := c) (d := d) (t := t) (by rw [hv]; rfl))
    have HQ := Lib.hid (siQ_no (Or.inl HC.out))
    go_wp2
    go_ret2
    exact ⟨ret_int2 HQ.out HC.out, hX.trans h1⟩
  go_wp2_with fail
  refine (isLine_spec _ _ _ _ _).mono ?_
  rintro e w2 ⟨rfl, h2⟩
  replace h2 := h1.trans h2
  clear h1
  cases hs : sgB a b c d
  · have HC := Lib.hid (siC_one (fs := fs) (a := a) (b := b) (c := c) (d := d) (t := t) (by rw [hs]; simp))
    have HQ := Lib.hid (siQ_no (Or.inl HC.out))
    go_wp2
    go_ret2
    exact ⟨ret_int2 HQ.out HC.out, hX.trans h2⟩
  obtain ⟨⟨n2, n40⟩, _⟩ := trB_yes hv
  go_wp2_with fail
  refine (lasts_spec _ _ _ _ _ (HF.out.ext (hX.trans h2)) (by omega)).mono ?_
  rintro e w3 ⟨rfl, h3⟩
  replace h3 := h2.trans h3
  clear h2
  cases hl : lastB fs t
  · have HC := Lib.hid (siC_two hv hs hl)
    have HQ := Lib.hid (siQ_no (Or.inr HC.out))
    go_wp2
    go_ret2
    exact ⟨ret_int2 HQ.out HC.out, hX.trans h3⟩
  have HC := Lib.hid (siC_none hv hs hl)
  have HQ := Lib.hid (siQ_yes HC.out)
  obtain ⟨⟨ga, gb, gc, gd⟩, _⟩ := sgB_yes hs
  obtain ⟨gp, gq⟩ := pk_Co hv hl
  have PA := Lib.hid (fun w' (h : Ext w w') => at_spec a₀ cap fs t w' (HF.out.ext h) hv hl)
  have PB := Lib.hid (fun w' => before_spec a b c d (pkX fs t (legOf fs t)) (pkY fs t (legOf fs t)) w' ga gb gc gd gp gq)
  clear hs hl
  go_wp2_with fail
  refine wp_region_held_drew (S := (fun w' => Ext W0 w')) (by kernel_rfl) (by (try dsimp only); first | go_keep | exact (Ext.refl _).drew | exact Res.new2.drew | exact Res.new4.drew | exact ResB.drew (by assumption) | exact ResC.drew (by assumption) | assumption | exact Ext.drew (by assumption) | exact Res.drew (by assumption)) (fun hHeld => ?_)
  (refine Ord.takeH 0 20 (v := ?_) rfl rfl (by kernel_rfl) (by kernel_rfl) (by kernel_rfl) (fun _ _ _ h => h) (by rfl) ?_ (by assumption) ?_; rotate_left; (intro w hSw; (try dsimp only at hSw); go_simp; (first | done | with_reducible rfl)); (try simp only [Act.put, List.setIfInBounds_toArray, List.set_cons_zero, List.set_cons_succ]))
  (refine Ord.takeH 1 21 (v := ?_) rfl rfl (by kernel_rfl) (by kernel_rfl) (by kernel_rfl) (fun _ _ _ h => h) (by rfl) ?_ (by assumption) ?_; rotate_left; (intro w hSw; (try dsimp only at hSw); go_simp; (first | done | with_reducible rfl)); (try simp only [Act.put, List.setIfInBounds_toArray, List.set_cons_zero, List.set_cons_succ]))
  (refine Ord.takeH 2 22 (v := ?_) rfl rfl (by kernel_rfl) (by kernel_rfl) (by kernel_rfl) (fun _ _ _ h => h) (by rfl) ?_ (by assumption) ?_; rotate_left; (intro w hSw; (try dsimp only at hSw); go_simp; (first | done | with_reducible rfl)); (try simp only [Act.put, List.setIfInBounds_toArray, List.set_cons_zero, List.set_cons_succ]))
  (refine wpAnyH_ready (rs := [3]) (by kernel_rfl) (by simp) ?_; refine AllReadyH.cons rfl (fun K hK => ?_) AllReadyH.nil; go_simp; (first | (go_at_call 94; refine (PA.out _ (hX.trans (by assumption))).mono ?_; rintro e w5 ⟨rfl, hy⟩) | (go_at_call 93; refine (PB.out _).mono ?_; rintro e w5 ⟨rfl, hy⟩)); go_wp2_with fail; (refine hK.out _ _ (by first | assumption | exact Ext.trans (by assumption) hy | exact Res.ext (by assumption) hy | exact ResB.ext (by assumption) hy | exact ResC.ext (by assumption) hy | (go_split_ands; (repeat' apply And.intro) <;> exact Ext.cellOf hy (by assumption))) (fun hHeld => ?_)); clear hK K; (try simp only [Act.put, List.setIfInBounds_toArray, List.set_cons_zero, List.set_cons_succ]))
  (refine wpAnyH_ready (rs := [4]) (by kernel_rfl) (by simp) ?_; refine AllReadyH.cons rfl (fun K hK => ?_) AllReadyH.nil; go_simp; (first | (go_at_call 94; refine (PA.out _ (hX.trans (by assumption))).mono ?_; rintro e w5 ⟨rfl, hy⟩) | (go_at_call 93; refine (PB.out _).mono ?_; rintro e w5 ⟨rfl, hy⟩)); go_wp2_with fail; (refine hK.out _ _ (by first | assumption | exact Ext.trans (by assumption) hy | exact Res.ext (by assumption) hy | exact ResB.ext (by assumption) hy | exact ResC.ext (by assumption) hy | (go_split_ands; (repeat' apply And.intro) <;> exact Ext.cellOf hy (by assumption))) (fun hHeld => ?_)); clear hK K; (try simp only [Act.put, List.setIfInBounds_toArray, List.set_cons_zero, List.set_cons_succ]))
  (refine Ord.takeH 5 6 (v := ?_) rfl rfl (by kernel_rfl) (by kernel_rfl) (by kernel_rfl) (fun _ _ _ h => h) (by rfl) ?_ (by assumption) ?_; rotate_left; (intro w hSw; (try dsimp only at hSw); go_simp; (first | done | with_reducible rfl)); (try simp only [Act.put, List.setIfInBounds_toArray, List.set_cons_zero, List.set_cons_succ]))
  (refine Ord.takeH 6 7 (v := ?_) rfl rfl (by kernel_rfl) (by kernel_rfl) (by kernel_rfl) (fun _ _ _ h => h) (by rfl) ?_ (by assumption) ?_; rotate_left; (intro w hSw; (try dsimp only at hSw); go_simp; (first | done | with_reducible rfl)); (try simp only [Act.put, List.setIfInBounds_toArray, List.set_cons_zero, List.set_cons_succ]))
  refine wpAnyH_done (by kernel_rfl) ?_ _
  go_wp2
  go_ret2
  exact ⟨ret_int2 HQ.out HC.out, hX.trans hHeld⟩

set_option maxHeartbeats 1000000 in
theorem sideAt_impl (a₀ : Option Addr) (cap : Nat) (fs : List F3) (a b c d t : Int) (w : World) (hf : Fxs w a₀ fs) (hcap : fs.length ≤ cap) :
    Calls Try.prog 50 #[Tr (.slice a₀ fs.length cap), Sg a b c d, .int .i64 t] w fun e w' => e = .returned (.tuple #[.int .i64 (siQ fs a b c d t), .int .i64 (siC fs a b c d t)]) ∧ Ext w w' := by
  obtain ⟨W0, hW0⟩ : ∃ W0, W0 = (w.alloc (.cells #[.slice a₀ fs.length cap] 35)).alloc (.cells #[.int .i64 a, .int .i64 b, .int .i64 c, .int .i64 d] 27) := ⟨_, rfl⟩
  have hX : Ext w W0 := hW0 ▸ (((Ext.refl w).alloc _).alloc _)
  have hs0 : W0.heap.size = w.heap.size + 1 + 1 := by rw [hW0]; simp
  have e00 : ∀ w', (Ext W0) w' → w'.cell? ⟨w.heap.size, 0, none⟩ = some (.slice a₀ fs.length cap) := fun w' h => h.cellOf (by rw [hW0]; exact ((Ext.refl _).alloc _).cellOf (boxed 0 rfl (by simp)))
  have e10 : ∀ w', (Ext W0) w' → w'.cell? ⟨w.heap.size + 1, 0, none⟩ = some (.int .i64 a) := fun w' h => h.cellOf (by rw [hW0]; exact boxed 0 rfl (by simp))
  have e11 : ∀ w', (Ext W0) w' → w'.cell? ⟨w.heap.size + 1, 1, none⟩ = some (.int .i64 b) := fun w' h => h.cellOf (by rw [hW0]; exact boxed 1 rfl (by simp))
  have e12 : ∀ w', (Ext W0) w' → w'.cell? ⟨w.heap.size + 1, 2, none⟩ = some (.int .i64 c) := fun w' h => h.cellOf (by rw [hW0]; exact boxed 2 rfl (by simp))
  have e13 : ∀ w', (Ext W0) w' → w'.cell? ⟨w.heap.size + 1, 3, none⟩ = some (.int .i64 d) := fun w' h => h.cellOf (by rw [hW0]; exact boxed 3 rfl (by simp))
  have HF := Lib.hid hf
  clear hf
  go_enter Try.func50, Try.ntmps50
  go_wp2_with fail
  refine (trackValid_any _ _ _ _ (HF.out.ext (by rw [← hW0]; exact hX))).mono ?_
  rintro e w1 ⟨rfl, h1⟩
  rw [← hW0] at h1
  clear hW0
  cases hv : trB fs
  · have HC := Lib.hid (siC_one (fs := fs) (a := a) (b := b) (c := c) (d := d) (t := t) (by rw [hv]; rfl))
    have HQ := Lib.hid (siQ_no (Or.inl HC.out))
    go_wp2
    go_ret2
    exact ⟨ret_int2 HQ.out HC.out, hX.trans h1⟩
  go_wp2_with fail
  refine (lineValid_any _ _ _ _ _).mono ?_
  rintro e w2 ⟨rfl, h2⟩
  replace h2 := h1.trans h2
  clear h1
  cases hs : sgB a b c d
  · have HC := Lib.hid (siC_one (fs := fs) (a := a) (b := b) (c := c) (d := d) (t := t) (by rw [hs]; simp))
    have HQ := Lib.hid (siQ_no (Or.inl HC.out))
    go_wp2
    go_ret2
    exact ⟨ret_int2 HQ.out HC.out, hX.trans h2⟩
  obtain ⟨⟨n2, n40⟩, _⟩ := trB_yes hv
  go_wp2_with fail
  refine (lastsAt_any _ _ _ _ _ (HF.out.ext (hX.trans h2)) (by omega)).mono ?_
  rintro e w3 ⟨rfl, h3⟩
  replace h3 := h2.trans h3
  clear h2
  cases hl : lastB fs t
  · have HC := Lib.hid (siC_two hv hs hl)
    have HQ := Lib.hid (siQ_no (Or.inr HC.out))
    go_wp2
    go_ret2
    exact ⟨ret_int2 HQ.out HC.out, hX.trans h3⟩
  have HC := Lib.hid (siC_none hv hs hl)
  have HQ := Lib.hid (siQ_yes HC.out)
  obtain ⟨gp, gq⟩ := pk_Co hv hl
  have hp : ptB (pkX fs t (legOf fs t)) (pkY fs t (legOf fs t)) = true := by
    unfold ptB coB; rw [inB_yes gp.1 gp.2, inB_yes gq.1 gq.2]; rfl
  have HB := Lib.hid (show blQ a b c d (pkX fs t (legOf fs t)) (pkY fs t (legOf fs t)) = trn a b c d (pkX fs t (legOf fs t)) (pkY fs t (legOf fs t)) by unfold blQ; rw [if_pos ⟨hs, hp⟩])
  have HD := Lib.hid (show blC a b c d (pkX fs t (legOf fs t)) (pkY fs t (legOf fs t)) = 0 by unfold blC; rw [if_pos ⟨hs, hp⟩])
  have PA := Lib.hid (fun w' (h : Ext w w') => positionAt_any a₀ cap fs t w' (HF.out.ext h) hcap hv hl)
  have PB := Lib.hid (fun w' => beforeLine_impl a b c d (pkX fs t (legOf fs t)) (pkY fs t (legOf fs t)) w')
  clear hs hl hp
  go_wp2_with fail
  refine wp_region_held_drew (S := (fun w' => Ext W0 w')) (by kernel_rfl) (by (try dsimp only); first | go_keep | exact (Ext.refl _).drew | exact Res.new2.drew | exact Res.new4.drew | exact ResB.drew (by assumption) | exact ResC.drew (by assumption) | assumption | exact Ext.drew (by assumption) | exact Res.drew (by assumption)) (fun hHeld => ?_)
  (refine Ord.takeH 0 20 (v := ?_) rfl rfl (by kernel_rfl) (by kernel_rfl) (by kernel_rfl) (fun _ _ _ h => h) (by rfl) ?_ (by assumption) ?_; rotate_left; (intro w hSw; (try dsimp only at hSw); go_simp; (first | done | with_reducible rfl)); (try simp only [Act.put, List.setIfInBounds_toArray, List.set_cons_zero, List.set_cons_succ]))
  (refine Ord.takeH 1 21 (v := ?_) rfl rfl (by kernel_rfl) (by kernel_rfl) (by kernel_rfl) (fun _ _ _ h => h) (by rfl) ?_ (by assumption) ?_; rotate_left; (intro w hSw; (try dsimp only at hSw); go_simp; (first | done | with_reducible rfl)); (try simp only [Act.put, List.setIfInBounds_toArray, List.set_cons_zero, List.set_cons_succ]))
  (refine Ord.takeH 2 22 (v := ?_) rfl rfl (by kernel_rfl) (by kernel_rfl) (by kernel_rfl) (fun _ _ _ h => h) (by rfl) ?_ (by assumption) ?_; rotate_left; (intro w hSw; (try dsimp only at hSw); go_simp; (first | done | with_reducible rfl)); (try simp only [Act.put, List.setIfInBounds_toArray, List.set_cons_zero, List.set_cons_succ]))
  (refine wpAnyH_ready (rs := [3]) (by kernel_rfl) (by simp) ?_; refine AllReadyH.cons rfl (fun K hK => ?_) AllReadyH.nil; go_simp; (first | (go_at_call 96; refine (PA.out _ (hX.trans (by assumption))).mono ?_; rintro e w5 ⟨rfl, hy⟩) | (go_at_call 19; refine (PB.out _).mono ?_; rintro e w5 ⟨rfl, hy⟩)); go_wp2_with fail; (refine hK.out _ _ (by first | assumption | exact Ext.trans (by assumption) hy | exact Res.ext (by assumption) hy | exact ResB.ext (by assumption) hy | exact ResC.ext (by assumption) hy | (go_split_ands; (repeat' apply And.intro) <;> exact Ext.cellOf hy (by assumption))) (fun hHeld => ?_)); clear hK K; (try simp only [Act.put, List.setIfInBounds_toArray, List.set_cons_zero, List.set_cons_succ]))
  (refine wpAnyH_ready (rs := [4]) (by kernel_rfl) (by simp) ?_; refine AllReadyH.cons rfl (fun K hK => ?_) AllReadyH.nil; go_simp; (first | (go_at_call 96; refine (PA.out _ (hX.trans (by assumption))).mono ?_; rintro e w5 ⟨rfl, hy⟩) | (go_at_call 19; refine (PB.out _).mono ?_; rintro e w5 ⟨rfl, hy⟩)); go_wp2_with fail; (refine hK.out _ _ (by first | assumption | exact Ext.trans (by assumption) hy | exact Res.ext (by assumption) hy | exact ResB.ext (by assumption) hy | exact ResC.ext (by assumption) hy | (go_split_ands; (repeat' apply And.intro) <;> exact Ext.cellOf hy (by assumption))) (fun hHeld => ?_)); clear hK K; (try simp only [Act.put, List.setIfInBounds_toArray, List.set_cons_zero, List.set_cons_succ]))
  (refine Ord.takeH 5 25 (v := ?_) rfl rfl (by kernel_rfl) (by kernel_rfl) (by kernel_rfl) (fun _ _ _ h => h) (by rfl) ?_ (by assumption) ?_; rotate_left; (intro w hSw; (try dsimp only at hSw); go_simp; (first | done | with_reducible rfl)); (try simp only [Act.put, List.setIfInBounds_toArray, List.set_cons_zero, List.set_cons_succ]))
  (refine Ord.takeH 6 26 (v := ?_) rfl rfl (by kernel_rfl) (by kernel_rfl) (by kernel_rfl) (fun _ _ _ h => h) (by rfl) ?_ (by assumption) ?_; rotate_left; (intro w hSw; (try dsimp only at hSw); go_simp; (first | done | with_reducible rfl)); (try simp only [Act.put, List.setIfInBounds_toArray, List.set_cons_zero, List.set_cons_succ]))
  (refine Ord.takeH 7 6 (v := ?_) rfl rfl (by kernel_rfl) (by kernel_rfl) (by kernel_rfl) (fun _ _ _ h => h) (by rfl) ?_ (by assumption) ?_; rotate_left; (intro w hSw; (try dsimp only at hSw); go_simp; (first | done | with_reducible rfl)); (try simp only [Act.put, List.setIfInBounds_toArray, List.set_cons_zero, List.set_cons_succ]))
  (refine Ord.takeH 8 7 (v := ?_) rfl rfl (by kernel_rfl) (by kernel_rfl) (by kernel_rfl) (fun _ _ _ h => h) (by rfl) ?_ (by assumption) ?_; rotate_left; (intro w hSw; (try dsimp only at hSw); go_simp; (first | done | with_reducible rfl)); (try simp only [Act.put, List.setIfInBounds_toArray, List.set_cons_zero, List.set_cons_succ]))
  refine wpAnyH_done (by kernel_rfl) ?_ _
  go_wp2
  go_ret2
  exact ⟨ret_int2 (HQ.out.trans HB.out.symm) (HC.out.trans HD.out.symm), hX.trans hHeld⟩

end Go.Proofs.Ytichcamknpccpaa.Trk
