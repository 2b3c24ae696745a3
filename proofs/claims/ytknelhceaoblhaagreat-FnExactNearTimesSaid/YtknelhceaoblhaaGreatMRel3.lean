import Derived.Test.YtknelhceaoblhaaGreatRel2
namespace Go.Proofs.YtknelhceaoblhaaGreat.Seg
open Go.ChangeShapes Go.WideShapes Go.ChangeAt Go.RowKit
open Go.Proofs.YtknelhceaoblhaaGreat.Num Go.Proofs.YtknelhceaoblhaaGreat.Kit Go.Proofs.YtknelhceaoblhaaGreat.Pts
set_option linter.unusedVariables false
set_option linter.unusedSimpArgs false
theorem turnS_any (x y u v a b : Int) (w : World) (hx : Co x) (hy : Co y) (hu : Co u) (hv : Co v) (ha : Co a) (hb : Co b) :
    Calls Tryz.prog 168 #[Pt x y, Pt u v, Pt a b] w fun e w' => e = .returned (.int .i64 (sgn (crs x y u v a b))) ∧ Ext w w' := turn_any x y u v a b w hx hy hu hv ha hb
theorem wrapS (m n : Int) : IntKind.i64.wrap (sgn m * sgn n) = sgn m * sgn n := by
  obtain ⟨m1, m2⟩ := mul_bd 1 1 (sgn_bd m) (sgn_bd n)
  simp only [Int.reduceMul, Int.reduceNeg] at m1 m2
  rw [IntKind.wrap_i64]; omega
set_option maxHeartbeats 1000000 in
theorem crossS2_any (a b c d p q u v : Int) (w : World) (ha : Co a) (hb : Co b) (hc : Co c) (hd : Co d) (hp : Co p) (hq : Co q) (hu : Co u) (hv : Co v) :
    Calls Tryz.prog 134 #[Sg a b c d, Sg p q u v] w fun e w' => e = .returned (.bool (crB a b c d p q u v)) ∧ Ext w w' := by
  have w1 := wrapS (crs a b c d p q) (crs a b c d u v)
  have w2 := wrapS (crs p q u v a b) (crs p q u v c d)
  cases h0 : sepB a b c d p q u v
  · have H := Lib.hid (show crB a b c d p q u v = false by unfold crB; rw [h0]; rfl)
    have h1 : decide (sgn (crs a b c d p q) * sgn (crs a b c d u v) < 0) = false := h0
    go_enter Tryz.func134, Tryz.ntmps134
    go_wp2_with fail
    refine wp_region_held_drew (S := (fun w' => w'.cell? ⟨w.heap.size, 0, none⟩ = some (.int .i64 a) ∧ w'.cell? ⟨w.heap.size, 1, none⟩ = some (.int .i64 b) ∧ w'.cell? ⟨w.heap.size, 2, none⟩ = some (.int .i64 c) ∧ w'.cell? ⟨w.heap.size, 3, none⟩ = some (.int .i64 d) ∧ w'.cell? ⟨w.heap.size + 1, 0, none⟩ = some (.int .i64 p) ∧ w'.cell? ⟨w.heap.size + 1, 1, none⟩ = some (.int .i64 q) ∧ w'.cell? ⟨w.heap.size + 1, 2, none⟩ = some (.int .i64 u) ∧ w'.cell? ⟨w.heap.size + 1, 3, none⟩ = some (.int .i64 v))) (by kernel_rfl) (by (try dsimp only); go_keep) (fun hHeld => ?_)
    refine Ord.K 0 5 ?_; refine Ord.K 1 6 ?_; refine Ord.K 2 7 ?_; refine Ord.K 3 8 ?_; refine Ord.K 4 9 ?_; refine Ord.K 5 10 ?_; refine Ord.K 7 12 ?_; refine Ord.K 8 13 ?_; refine Ord.K 9 14 ?_; refine Ord.K 10 15 ?_; refine Ord.K 11 16 ?_; refine Ord.K 12 17 ?_
    refine wpAnyH_ready (rs := [6]) (by kernel_rfl) (by simp) ?_
    refine AllReadyH.cons rfl (fun K hK => ?_) AllReadyH.nil
    go_simp
    go_at_call 168
    refine (turnS_any _ _ _ _ _ _ _ ha hb hc hd hp hq).mono ?_
    rintro e w1 ⟨rfl, hx⟩
    go_wp2_with fail
    refine hK.out _ _ (by go_split_ands; (repeat' apply And.intro) <;> exact Ext.cellOf hx (by assumption)) (fun hHeld => ?_)
    clear hK K
    try simp only [Act.put, List.setIfInBounds_toArray, List.set_cons_zero, List.set_cons_succ]
    refine wpAnyH_ready (rs := [13]) (by kernel_rfl) (by simp) ?_
    refine AllReadyH.cons rfl (fun K hK => ?_) AllReadyH.nil
    go_simp
    go_at_call 168
    refine (turnS_any _ _ _ _ _ _ _ ha hb hc hd hu hv).mono ?_
    rintro e w1 ⟨rfl, hx⟩
    go_wp2_with fail
    refine hK.out _ _ (by go_split_ands; (repeat' apply And.intro) <;> exact Ext.cellOf hx (by assumption)) (fun hHeld => ?_)
    clear hK K
    try simp only [Act.put, List.setIfInBounds_toArray, List.set_cons_zero, List.set_cons_succ]
    refine Ord.K 14 19 ?_; refine Ord.K 15 20 ?_; refine Ord.K 16 21 ?_
    refine Ord.s 17 22 ?_ ?_; rfl; (try simp only [Act.put, Ord.a, Ord.b, Ord.c]); refine Ord.s 18 23 ?_ ?_; rfl; (try simp only [Act.put, Ord.a, Ord.b, Ord.c]); refine Ord.s 19 24 ?_ ?_; rfl; (try simp only [Act.put, Ord.a, Ord.b, Ord.c]); refine Ord.s 20 25 ?_ ?_; rfl; (try simp only [Act.put, Ord.a, Ord.b, Ord.c]); refine Ord.s 21 26 ?_ ?_; rfl; (try simp only [Act.put, Ord.a, Ord.b, Ord.c]); refine Ord.s 22 27 ?_ ?_; rfl; (try simp only [Act.put, Ord.a, Ord.b, Ord.c]); refine Ord.s 23 28 ?_ ?_; rfl; (try simp only [Act.put, Ord.a, Ord.b, Ord.c]); refine Ord.s 24 29 ?_ ?_; rfl; (try simp only [Act.put, Ord.a, Ord.b, Ord.c]); refine Ord.s 25 30 ?_ ?_; rfl; (try simp only [Act.put, Ord.a, Ord.b, Ord.c]); refine Ord.s 26 31 ?_ ?_; rfl; (try simp only [Act.put, Ord.a, Ord.b, Ord.c]); refine Ord.s 27 32 ?_ ?_; rfl; (try simp only [Act.put, Ord.a, Ord.b, Ord.c]); refine Ord.s 28 33 ?_ ?_; rfl; (try simp only [Act.put, Ord.a, Ord.b, Ord.c]); refine Ord.s 29 34 ?_ ?_; rfl; (try simp only [Act.put, Ord.a, Ord.b, Ord.c]); refine Ord.s 30 35 ?_ ?_; rfl; (try simp only [Act.put, Ord.a, Ord.b, Ord.c]); refine Ord.s 31 36 ?_ ?_; rfl; (try simp only [Act.put, Ord.a, Ord.b, Ord.c]); refine Ord.s 32 37 ?_ ?_; rfl; (try simp only [Act.put, Ord.a, Ord.b, Ord.c])
    refine Ord.K 33 38 ?_; refine Ord.K 34 4 ?_
    refine wpAnyH_done (by kernel_rfl) ?_ _
    go_wp2
    go_ret
    exact ⟨ret_bool H.out, (by repeat (first | exact Ext.refl _ | assumption | apply Ext.alloc | apply Ext.drew | (refine Ext.trans ?_ (by assumption)) | (refine Ext.setNew ?_ (by simp <;> omega) _)))⟩
  · have H := Lib.hid (show crB a b c d p q u v = decide (sgn (crs p q u v a b) * sgn (crs p q u v c d) < 0) by unfold crB; rw [h0]; rfl)
    have h1 : sgn (crs a b c d p q) * sgn (crs a b c d u v) < 0 := of_decide_eq_true h0
    go_enter Tryz.func134, Tryz.ntmps134
    go_wp2_with fail
    go_region_held3 (fun w' => w'.cell? ⟨w.heap.size, 0, none⟩ = some (.int .i64 a) ∧ w'.cell? ⟨w.heap.size, 1, none⟩ = some (.int .i64 b) ∧ w'.cell? ⟨w.heap.size, 2, none⟩ = some (.int .i64 c) ∧ w'.cell? ⟨w.heap.size, 3, none⟩ = some (.int .i64 d) ∧ w'.cell? ⟨w.heap.size + 1, 0, none⟩ = some (.int .i64 p) ∧ w'.cell? ⟨w.heap.size + 1, 1, none⟩ = some (.int .i64 q) ∧ w'.cell? ⟨w.heap.size + 1, 2, none⟩ = some (.int .i64 u) ∧ w'.cell? ⟨w.heap.size + 1, 3, none⟩ = some (.int .i64 v))
      (first | go_keep | (go_split_ands; refine ⟨?_, ?_, ?_, ?_, ?_, ?_, ?_, ?_⟩ <;> exact Ext.cellOf hx (by assumption)))
      (first | (go_at_call 168; refine (turnS_any _ _ _ _ _ _ _ (by omega) (by omega) (by omega) (by omega) (by omega) (by omega)).mono ?_; rintro e w1 ⟨rfl, hx⟩))
    all_goals
      go_wp2
      go_ret
      exact ⟨ret_bool H.out, (by repeat (first | exact Ext.refl _ | assumption | apply Ext.alloc | apply Ext.drew | (refine Ext.trans ?_ (by assumption)) | (refine Ext.setNew ?_ (by simp <;> omega) _)))⟩
theorem onB_eq (a b c d p q : Int) : onB a b c d p q = ((sgn (crs a b c d p q) == 0) && decide ((p - a) * (p - c) + (q - b) * (q - d) ≤ 0)) := by
  have e1 : (p - a) * (p - c) + (q - b) * (q - d) = (a - p) * (c - p) + (b - q) * (d - q) := by grind
  have e2 : (sgn (crs a b c d p q) == 0) = (crs a b c d p q == 0) := by rw [Bool.eq_iff_iff, beq_iff_eq, beq_iff_eq]; exact sgn0 _
  unfold onB; rw [e1, e2]
set_option maxHeartbeats 1000000 in
theorem onS_any (a b c d p q : Int) (w : World) (ha : Co a) (hb : Co b) (hc : Co c) (hd : Co d) (hp : Co p) (hq : Co q) :
    Calls Tryz.prog 135 #[Sg a b c d, Pt p q] w fun e w' => e = .returned (.bool (onB a b c d p q)) ∧ Ext w w' := by
  cases h0 : (sgn (crs a b c d p q) == 0)
  · have H := Lib.hid (show onB a b c d p q = false by rw [onB_eq, h0]; rfl)
    go_enter Tryz.func135, Tryz.ntmps135
    go_wp2_with fail
    refine wp_region_held_drew (S := (fun w' => w'.cell? ⟨w.heap.size, 0, none⟩ = some (.int .i64 a) ∧ w'.cell? ⟨w.heap.size, 1, none⟩ = some (.int .i64 b) ∧ w'.cell? ⟨w.heap.size, 2, none⟩ = some (.int .i64 c) ∧ w'.cell? ⟨w.heap.size, 3, none⟩ = some (.int .i64 d) ∧ w'.cell? ⟨w.heap.size + 1, 0, none⟩ = some (.int .i64 p) ∧ w'.cell? ⟨w.heap.size + 1, 1, none⟩ = some (.int .i64 q))) (by kernel_rfl) (by (try dsimp only); go_keep) (fun hHeld => ?_)
    refine Ord.K 0 5 ?_; refine Ord.K 1 6 ?_; refine Ord.K 2 7 ?_; refine Ord.K 3 8 ?_; refine Ord.K 4 9 ?_
    refine wpAnyH_ready (rs := [5]) (by kernel_rfl) (by simp) ?_
    refine AllReadyH.cons rfl (fun K hK => ?_) AllReadyH.nil
    go_simp
    go_at_call 168
    refine (turnS_any _ _ _ _ _ _ _ ha hb hc hd hp hq).mono ?_
    rintro e w1 ⟨rfl, hx⟩
    go_wp2_with fail
    refine hK.out _ _ (by go_split_ands; (repeat' apply And.intro) <;> exact Ext.cellOf hx (by assumption)) (fun hHeld => ?_)
    clear hK K
    try simp only [Act.put, List.setIfInBounds_toArray, List.set_cons_zero, List.set_cons_succ]
    refine Ord.K 6 11 ?_; refine Ord.K 7 12 ?_
    refine Ord.s 8 13 ?_ ?_; rfl; (try simp only [Act.put, Ord.a, Ord.b, Ord.c]); refine Ord.s 9 14 ?_ ?_; rfl; (try simp only [Act.put, Ord.a, Ord.b, Ord.c]); refine Ord.s 10 15 ?_ ?_; rfl; (try simp only [Act.put, Ord.a, Ord.b, Ord.c]); refine Ord.s 11 16 ?_ ?_; rfl; (try simp only [Act.put, Ord.a, Ord.b, Ord.c]); refine Ord.s 12 17 ?_ ?_; rfl; (try simp only [Act.put, Ord.a, Ord.b, Ord.c]); refine Ord.s 13 18 ?_ ?_; rfl; (try simp only [Act.put, Ord.a, Ord.b, Ord.c]); refine Ord.s 14 19 ?_ ?_; rfl; (try simp only [Act.put, Ord.a, Ord.b, Ord.c]); refine Ord.s 15 20 ?_ ?_; rfl; (try simp only [Act.put, Ord.a, Ord.b, Ord.c]); refine Ord.s 16 21 ?_ ?_; rfl; (try simp only [Act.put, Ord.a, Ord.b, Ord.c]); refine Ord.s 17 22 ?_ ?_; rfl; (try simp only [Act.put, Ord.a, Ord.b, Ord.c])
    refine Ord.K 18 23 ?_; refine Ord.K 19 4 ?_
    refine wpAnyH_done (by kernel_rfl) ?_ _
    go_wp2
    go_ret
    exact ⟨ret_bool H.out, (by repeat (first | exact Ext.refl _ | assumption | apply Ext.alloc | apply Ext.drew | (refine Ext.trans ?_ (by assumption)) | (refine Ext.setNew ?_ (by simp <;> omega) _)))⟩
  · have H := Lib.hid (show onB a b c d p q = decide ((p - a) * (p - c) + (q - b) * (q - d) ≤ 0) by rw [onB_eq, h0]; rfl)
    go_enter Tryz.func135, Tryz.ntmps135
    go_wp2_with fail
    go_region_held3 (fun w' => w'.cell? ⟨w.heap.size, 0, none⟩ = some (.int .i64 a) ∧ w'.cell? ⟨w.heap.size, 1, none⟩ = some (.int .i64 b) ∧ w'.cell? ⟨w.heap.size, 2, none⟩ = some (.int .i64 c) ∧ w'.cell? ⟨w.heap.size, 3, none⟩ = some (.int .i64 d) ∧ w'.cell? ⟨w.heap.size + 1, 0, none⟩ = some (.int .i64 p) ∧ w'.cell? ⟨w.heap.size + 1, 1, none⟩ = some (.int .i64 q))
      (first | go_keep | (go_split_ands; refine ⟨?_, ?_, ?_, ?_, ?_, ?_⟩ <;> exact Ext.cellOf hx (by assumption)))
      (first | (go_at_call 168; refine (turnS_any _ _ _ _ _ _ _ (by omega) (by omega) (by omega) (by omega) (by omega) (by omega)).mono ?_; rintro e w1 ⟨rfl, hx⟩) | (go_at_call 137; refine (minus_any _ _ _ _ _ (by omega) (by omega) (by omega) (by omega)).mono ?_; rintro e w1 ⟨rfl, hx⟩) | (go_at_call 138; refine (dot_any _ _ _ _ _ (by omega) (by omega) (by omega) (by omega)).mono ?_; rintro e w1 ⟨rfl, hx⟩))
    all_goals
      go_wp2
      go_ret
      exact ⟨ret_bool H.out, (by repeat (first | exact Ext.refl _ | assumption | apply Ext.alloc | apply Ext.drew | (refine Ext.trans ?_ (by assumption)) | (refine Ext.setNew ?_ (by simp <;> omega) _)))⟩
end Go.Proofs.YtknelhceaoblhaaGreat.Seg
namespace Go.Proofs.YtknelhceaoblhaaGreat.Seg
open Go.ChangeShapes Go.WideShapes Go.ChangeAt Go.RowKit
open Go.Proofs.YtknelhceaoblhaaGreat.Num Go.Proofs.YtknelhceaoblhaaGreat.Kit Go.Proofs.YtknelhceaoblhaaGreat.Pts
set_option linter.unusedVariables false
set_option linter.unusedSimpArgs false
set_option maxHeartbeats 1000000 in
theorem meetS_any (a b c d p q u v : Int) (w : World) (ha : Co a) (hb : Co b) (hc : Co c) (hd : Co d) (hp : Co p) (hq : Co q) (hu : Co u) (hv : Co v) :
    Calls Tryz.prog 98 #[Sg a b c d, Sg p q u v] w fun e w' => e = .returned (.bool (hvB a b c d p q u v false)) ∧ Ext w w' := by
  cases g0 : crB a b c d p q u v
  rotate_left
  · have H := Lib.hid (show hvB a b c d p q u v false = true by unfold hvB endB; rw [g0]; rfl)
    go_enter Tryz.func98, Tryz.ntmps98
    obtain ⟨⟨i0, i1, i2, i3⟩, _⟩ := ((Box.new4 (w := w) (n := w.heap.size) (x := .int .i64 a) (y := .int .i64 b) (z := .int .i64 c) (u := .int .i64 d) (t := 144) rfl).alloc (.cells #[.int .i64 p, .int .i64 q, .int .i64 u, .int .i64 v] 144)).four; obtain ⟨⟨j0, j1, j2, j3⟩, _⟩ := (Box.new4 (w := w.alloc (.cells #[.int .i64 a, .int .i64 b, .int .i64 c, .int .i64 d] 144)) (n := w.heap.size + 1) (x := .int .i64 p) (y := .int .i64 q) (z := .int .i64 u) (u := .int .i64 v) (t := 144) (by simp)).four; have hx := ((Ext.refl w).alloc (.cells #[.int .i64 a, .int .i64 b, .int .i64 c, .int .i64 d] 144)).alloc (.cells #[.int .i64 p, .int .i64 q, .int .i64 u, .int .i64 v] 144)
    go_wp2_with (first | (go_at_call 134; refine (crossS2_any _ _ _ _ _ _ _ _ _ ha hb hc hd hp hq hu hv).mono ?_; rintro e w1 ⟨rfl, hy⟩; replace i0 := hy.cellOf i0; replace i1 := hy.cellOf i1; replace i2 := hy.cellOf i2; replace i3 := hy.cellOf i3; replace j0 := hy.cellOf j0; replace j1 := hy.cellOf j1; replace j2 := hy.cellOf j2; replace j3 := hy.cellOf j3; replace hx := hx.trans hy; clear hy) | (go_at_call 135; refine (onS_any _ _ _ _ _ _ _ (by omega) (by omega) (by omega) (by omega) (by omega) (by omega)).mono ?_; rintro e w1 ⟨rfl, hy⟩; replace i0 := hy.cellOf i0; replace i1 := hy.cellOf i1; replace i2 := hy.cellOf i2; replace i3 := hy.cellOf i3; replace j0 := hy.cellOf j0; replace j1 := hy.cellOf j1; replace j2 := hy.cellOf j2; replace j3 := hy.cellOf j3; replace hx := hx.trans hy; clear hy))
    go_ret
    exact ⟨ret_bool H.out, hx⟩
  cases g1 : onB a b c d p q
  rotate_left
  · have H := Lib.hid (show hvB a b c d p q u v false = true by unfold hvB endB; rw [g0, g1]; cases crB a b c d p q u v <;> cases onB a b c d p q <;> cases onB a b c d u v <;> cases onB p q u v a b <;> cases onB p q u v c d <;> rfl)
    go_enter Tryz.func98, Tryz.ntmps98
    obtain ⟨⟨i0, i1, i2, i3⟩, _⟩ := ((Box.new4 (w := w) (n := w.heap.size) (x := .int .i64 a) (y := .int .i64 b) (z := .int .i64 c) (u := .int .i64 d) (t := 144) rfl).alloc (.cells #[.int .i64 p, .int .i64 q, .int .i64 u, .int .i64 v] 144)).four; obtain ⟨⟨j0, j1, j2, j3⟩, _⟩ := (Box.new4 (w := w.alloc (.cells #[.int .i64 a, .int .i64 b, .int .i64 c, .int .i64 d] 144)) (n := w.heap.size + 1) (x := .int .i64 p) (y := .int .i64 q) (z := .int .i64 u) (u := .int .i64 v) (t := 144) (by simp)).four; have hx := ((Ext.refl w).alloc (.cells #[.int .i64 a, .int .i64 b, .int .i64 c, .int .i64 d] 144)).alloc (.cells #[.int .i64 p, .int .i64 q, .int .i64 u, .int .i64 v] 144)
    go_wp2_with (first | (go_at_call 134; refine (crossS2_any _ _ _ _ _ _ _ _ _ ha hb hc hd hp hq hu hv).mono ?_; rintro e w1 ⟨rfl, hy⟩; replace i0 := hy.cellOf i0; replace i1 := hy.cellOf i1; replace i2 := hy.cellOf i2; replace i3 := hy.cellOf i3; replace j0 := hy.cellOf j0; replace j1 := hy.cellOf j1; replace j2 := hy.cellOf j2; replace j3 := hy.cellOf j3; replace hx := hx.trans hy; clear hy) | (go_at_call 135; refine (onS_any _ _ _ _ _ _ _ (by omega) (by omega) (by omega) (by omega) (by omega) (by omega)).mono ?_; rintro e w1 ⟨rfl, hy⟩; replace i0 := hy.cellOf i0; replace i1 := hy.cellOf i1; replace i2 := hy.cellOf i2; replace i3 := hy.cellOf i3; replace j0 := hy.cellOf j0; replace j1 := hy.cellOf j1; replace j2 := hy.cellOf j2; replace j3 := hy.cellOf j3; replace hx := hx.trans hy; clear hy))
    go_ret
    exact ⟨ret_bool H.out, hx⟩
  cases g2 : onB a b c d u v
  rotate_left
  · have H := Lib.hid (show hvB a b c d p q u v false = true by unfold hvB endB; rw [g0, g1, g2]; cases crB a b c d p q u v <;> cases onB a b c d p q <;> cases onB a b c d u v <;> cases onB p q u v a b <;> cases onB p q u v c d <;> rfl)
    go_enter Tryz.func98, Tryz.ntmps98
    obtain ⟨⟨i0, i1, i2, i3⟩, _⟩ := ((Box.new4 (w := w) (n := w.heap.size) (x := .int .i64 a) (y := .int .i64 b) (z := .int .i64 c) (u := .int .i64 d) (t := 144) rfl).alloc (.cells #[.int .i64 p, .int .i64 q, .int .i64 u, .int .i64 v] 144)).four; obtain ⟨⟨j0, j1, j2, j3⟩, _⟩ := (Box.new4 (w := w.alloc (.cells #[.int .i64 a, .int .i64 b, .int .i64 c, .int .i64 d] 144)) (n := w.heap.size + 1) (x := .int .i64 p) (y := .int .i64 q) (z := .int .i64 u) (u := .int .i64 v) (t := 144) (by simp)).four; have hx := ((Ext.refl w).alloc (.cells #[.int .i64 a, .int .i64 b, .int .i64 c, .int .i64 d] 144)).alloc (.cells #[.int .i64 p, .int .i64 q, .int .i64 u, .int .i64 v] 144)
    go_wp2_with (first | (go_at_call 134; refine (crossS2_any _ _ _ _ _ _ _ _ _ ha hb hc hd hp hq hu hv).mono ?_; rintro e w1 ⟨rfl, hy⟩; replace i0 := hy.cellOf i0; replace i1 := hy.cellOf i1; replace i2 := hy.cellOf i2; replace i3 := hy.cellOf i3; replace j0 := hy.cellOf j0; replace j1 := hy.cellOf j1; replace j2 := hy.cellOf j2; replace j3 := hy.cellOf j3; replace hx := hx.trans hy; clear hy) | (go_at_call 135; refine (onS_any _ _ _ _ _ _ _ (by omega) (by omega) (by omega) (by omega) (by omega) (by omega)).mono ?_; rintro e w1 ⟨rfl, hy⟩; replace i0 := hy.cellOf i0; replace i1 := hy.cellOf i1; replace i2 := hy.cellOf i2; replace i3 := hy.cellOf i3; replace j0 := hy.cellOf j0; replace j1 := hy.cellOf j1; replace j2 := hy.cellOf j2; replace j3 := hy.cellOf j3; replace hx := hx.trans hy; clear hy))
    go_ret
    exact ⟨ret_bool H.out, hx⟩
  cases g3 : onB p q u v a b
  rotate_left
  · have H := Lib.hid (show hvB a b c d p q u v false = true by unfold hvB endB; rw [g0, g1, g2, g3]; cases crB a b c d p q u v <;> cases onB a b c d p q <;> cases onB a b c d u v <;> cases onB p q u v a b <;> cases onB p q u v c d <;> rfl)
    go_enter Tryz.func98, Tryz.ntmps98
    obtain ⟨⟨i0, i1, i2, i3⟩, _⟩ := ((Box.new4 (w := w) (n := w.heap.size) (x := .int .i64 a) (y := .int .i64 b) (z := .int .i64 c) (u := .int .i64 d) (t := 144) rfl).alloc (.cells #[.int .i64 p, .int .i64 q, .int .i64 u, .int .i64 v] 144)).four; obtain ⟨⟨j0, j1, j2, j3⟩, _⟩ := (Box.new4 (w := w.alloc (.cells #[.int .i64 a, .int .i64 b, .int .i64 c, .int .i64 d] 144)) (n := w.heap.size + 1) (x := .int .i64 p) (y := .int .i64 q) (z := .int .i64 u) (u := .int .i64 v) (t := 144) (by simp)).four; have hx := ((Ext.refl w).alloc (.cells #[.int .i64 a, .int .i64 b, .int .i64 c, .int .i64 d] 144)).alloc (.cells #[.int .i64 p, .int .i64 q, .int .i64 u, .int .i64 v] 144)
    go_wp2_with (first | (go_at_call 134; refine (crossS2_any _ _ _ _ _ _ _ _ _ ha hb hc hd hp hq hu hv).mono ?_; rintro e w1 ⟨rfl, hy⟩; replace i0 := hy.cellOf i0; replace i1 := hy.cellOf i1; replace i2 := hy.cellOf i2; replace i3 := hy.cellOf i3; replace j0 := hy.cellOf j0; replace j1 := hy.cellOf j1; replace j2 := hy.cellOf j2; replace j3 := hy.cellOf j3; replace hx := hx.trans hy; clear hy) | (go_at_call 135; refine (onS_any _ _ _ _ _ _ _ (by omega) (by omega) (by omega) (by omega) (by omega) (by omega)).mono ?_; rintro e w1 ⟨rfl, hy⟩; replace i0 := hy.cellOf i0; replace i1 := hy.cellOf i1; replace i2 := hy.cellOf i2; replace i3 := hy.cellOf i3; replace j0 := hy.cellOf j0; replace j1 := hy.cellOf j1; replace j2 := hy.cellOf j2; replace j3 := hy.cellOf j3; replace hx := hx.trans hy; clear hy))
    go_ret
    exact ⟨ret_bool H.out, hx⟩
  have H := Lib.hid (show hvB a b c d p q u v false = onB p q u v c d by unfold hvB endB; rw [g0, g1, g2, g3]; cases onB p q u v c d <;> rfl)
  go_enter Tryz.func98, Tryz.ntmps98
  obtain ⟨⟨i0, i1, i2, i3⟩, _⟩ := ((Box.new4 (w := w) (n := w.heap.size) (x := .int .i64 a) (y := .int .i64 b) (z := .int .i64 c) (u := .int .i64 d) (t := 144) rfl).alloc (.cells #[.int .i64 p, .int .i64 q, .int .i64 u, .int .i64 v] 144)).four; obtain ⟨⟨j0, j1, j2, j3⟩, _⟩ := (Box.new4 (w := w.alloc (.cells #[.int .i64 a, .int .i64 b, .int .i64 c, .int .i64 d] 144)) (n := w.heap.size + 1) (x := .int .i64 p) (y := .int .i64 q) (z := .int .i64 u) (u := .int .i64 v) (t := 144) (by simp)).four; have hx := ((Ext.refl w).alloc (.cells #[.int .i64 a, .int .i64 b, .int .i64 c, .int .i64 d] 144)).alloc (.cells #[.int .i64 p, .int .i64 q, .int .i64 u, .int .i64 v] 144)
  go_wp2_with (first | (go_at_call 134; refine (crossS2_any _ _ _ _ _ _ _ _ _ ha hb hc hd hp hq hu hv).mono ?_; rintro e w1 ⟨rfl, hy⟩; replace i0 := hy.cellOf i0; replace i1 := hy.cellOf i1; replace i2 := hy.cellOf i2; replace i3 := hy.cellOf i3; replace j0 := hy.cellOf j0; replace j1 := hy.cellOf j1; replace j2 := hy.cellOf j2; replace j3 := hy.cellOf j3; replace hx := hx.trans hy; clear hy) | (go_at_call 135; refine (onS_any _ _ _ _ _ _ _ (by omega) (by omega) (by omega) (by omega) (by omega) (by omega)).mono ?_; rintro e w1 ⟨rfl, hy⟩; replace i0 := hy.cellOf i0; replace i1 := hy.cellOf i1; replace i2 := hy.cellOf i2; replace i3 := hy.cellOf i3; replace j0 := hy.cellOf j0; replace j1 := hy.cellOf j1; replace j2 := hy.cellOf j2; replace j3 := hy.cellOf j3; replace hx := hx.trans hy; clear hy))
  go_ret
  exact ⟨ret_bool H.out, hx⟩
def hcB (a b c d p q u v : Int) (z : Bool) : Bool := if sgB a b c d = true ∧ sgB p q u v = true then hvB a b c d p q u v z else false
def hcC (a b c d p q u v : Int) : Int := if sgB a b c d = true ∧ sgB p q u v = true then 0 else 1
theorem haveCommonPoint_any (a b c d p q u v : Int) (z : Bool) (w : World) :
    Calls Tryz.prog 165 #[Sg a b c d, Sg p q u v, .bool z] w fun e w' => e = .returned (.tuple #[.bool (hcB a b c d p q u v z), .int .i64 (hcC a b c d p q u v)]) ∧ Ext w w' := by
  cases h1 : sgB a b c d
  · have HQ := Lib.hid (show hcB a b c d p q u v z = false from if_neg (by simp [h1]))
    have HC := Lib.hid (show hcC a b c d p q u v = 1 from if_neg (by simp [h1]))
    go_enter Tryz.func165, Tryz.ntmps165
    obtain ⟨⟨i0, i1, i2, i3⟩, _⟩ := ((Box.new4 (w := w) (n := w.heap.size) (x := .int .i64 a) (y := .int .i64 b) (z := .int .i64 c) (u := .int .i64 d) (t := 144) rfl).alloc (.cells #[.int .i64 p, .int .i64 q, .int .i64 u, .int .i64 v] 144)).four; obtain ⟨⟨j0, j1, j2, j3⟩, _⟩ := (Box.new4 (w := w.alloc (.cells #[.int .i64 a, .int .i64 b, .int .i64 c, .int .i64 d] 144)) (n := w.heap.size + 1) (x := .int .i64 p) (y := .int .i64 q) (z := .int .i64 u) (u := .int .i64 v) (t := 144) (by simp)).four; have hx := ((Ext.refl w).alloc (.cells #[.int .i64 a, .int .i64 b, .int .i64 c, .int .i64 d] 144)).alloc (.cells #[.int .i64 p, .int .i64 q, .int .i64 u, .int .i64 v] 144)
    go_wp2_with (go_at_call 124; refine (sgValid_any _ _ _ _ _).mono ?_; rintro e w1 ⟨rfl, hy⟩; replace i0 := hy.cellOf i0; replace i1 := hy.cellOf i1; replace i2 := hy.cellOf i2; replace i3 := hy.cellOf i3; replace j0 := hy.cellOf j0; replace j1 := hy.cellOf j1; replace j2 := hy.cellOf j2; replace j3 := hy.cellOf j3; replace hx := hx.trans hy; clear hy)
    go_ret2
    exact ⟨ret_bool_int HQ.out HC.out, hx⟩
  cases h2 : sgB p q u v
  · have HQ := Lib.hid (show hcB a b c d p q u v z = false from if_neg (by simp [h2]))
    have HC := Lib.hid (show hcC a b c d p q u v = 1 from if_neg (by simp [h2]))
    go_enter Tryz.func165, Tryz.ntmps165
    obtain ⟨⟨i0, i1, i2, i3⟩, _⟩ := ((Box.new4 (w := w) (n := w.heap.size) (x := .int .i64 a) (y := .int .i64 b) (z := .int .i64 c) (u := .int .i64 d) (t := 144) rfl).alloc (.cells #[.int .i64 p, .int .i64 q, .int .i64 u, .int .i64 v] 144)).four; obtain ⟨⟨j0, j1, j2, j3⟩, _⟩ := (Box.new4 (w := w.alloc (.cells #[.int .i64 a, .int .i64 b, .int .i64 c, .int .i64 d] 144)) (n := w.heap.size + 1) (x := .int .i64 p) (y := .int .i64 q) (z := .int .i64 u) (u := .int .i64 v) (t := 144) (by simp)).four; have hx := ((Ext.refl w).alloc (.cells #[.int .i64 a, .int .i64 b, .int .i64 c, .int .i64 d] 144)).alloc (.cells #[.int .i64 p, .int .i64 q, .int .i64 u, .int .i64 v] 144)
    go_wp2_with (go_at_call 124; refine (sgValid_any _ _ _ _ _).mono ?_; rintro e w1 ⟨rfl, hy⟩; replace i0 := hy.cellOf i0; replace i1 := hy.cellOf i1; replace i2 := hy.cellOf i2; replace i3 := hy.cellOf i3; replace j0 := hy.cellOf j0; replace j1 := hy.cellOf j1; replace j2 := hy.cellOf j2; replace j3 := hy.cellOf j3; replace hx := hx.trans hy; clear hy)
    go_ret2
    exact ⟨ret_bool_int HQ.out HC.out, hx⟩
  · rw [show hcB a b c d p q u v z = hvB a b c d p q u v z from if_pos ⟨h1, h2⟩, show hcC a b c d p q u v = 0 from if_pos ⟨h1, h2⟩]
    exact haveCommonPoint_in a b c d p q u v z w h1 h2
theorem segmentsMeet_impl (a b c d p q u v : Int) (w : World) :
    Calls Tryz.prog 125 #[Sg a b c d, Sg p q u v] w fun e w' => e = .returned (.tuple #[.bool (hcB a b c d p q u v false), .int .i64 (hcC a b c d p q u v)]) ∧ Ext w w' := by
  go_enter Tryz.func125, Tryz.ntmps125
  go_wp2_with (go_at_call 165; refine (haveCommonPoint_any _ _ _ _ _ _ _ _ _ _).mono ?_; rintro e w1 ⟨rfl, hx⟩)
  go_ret2
  exact ⟨rfl, (by repeat (first | exact Ext.refl _ | assumption | apply Ext.alloc | apply Ext.drew | (refine Ext.trans ?_ (by assumption)) | (refine Ext.setNew ?_ (by simp <;> omega) _)))⟩
end Go.Proofs.YtknelhceaoblhaaGreat.Seg
