import Derived.Test.YtknelhceaoblhaaGreatSpd
import Derived.Test.YtknelhceaoblhaaGreatPart0
import Derived.Test.YtknelhceaoblhaaGreatRes
namespace Go.Proofs.YtknelhceaoblhaaGreat.Trk
open Go.ChangeShapes Go.WideShapes Go.ChangeAt Go.RowKit
open Go.Proofs.YtknelhceaoblhaaGreat.Num Go.Proofs.YtknelhceaoblhaaGreat.Kit Go.Proofs.YtknelhceaoblhaaGreat.Pts Go.Proofs.YtknelhceaoblhaaGreat.Seg Go.Proofs.YtknelhceaoblhaaGreat.Div
set_option linter.unusedVariables false
set_option linter.unusedSimpArgs false
theorem pa_bd {x y n : Int} (k1 : 0 ≤ x) (k2 : x ≤ y) (d1 : 1 ≤ y) (n1 : -2000000 ≤ n) (n2 : n ≤ 2000000) : -2000000 ≤ pa x y n ∧ pa x y n ≤ 2000000 := by
  have m1 : n * x ≤ 2000000 * y := Int.le_trans (Int.mul_le_mul_of_nonneg_right n2 k1) (Int.mul_le_mul_of_nonneg_left k2 (by omega))
  have m2 : -2000000 * y ≤ n * x := by
    have a1 := Int.mul_le_mul_of_nonneg_right n1 k1
    have a2 := Int.mul_le_mul_of_nonneg_left k2 (show (0 : Int) ≤ 2000000 by omega)
    omega
  unfold pa
  exact ⟨Int.le_ediv_of_mul_le (by omega) m2, by
    have := Int.ediv_le_ediv (show 0 < y by omega) m1
    rw [Int.mul_ediv_cancel _ (by omega)] at this
    exact this⟩
set_option maxHeartbeats 2000000 in
theorem at_any (a b c d x y : Int) (w : World) (ha : Co a) (hb : Co b) (hc : Co c) (hd : Co d) (k1 : 0 ≤ x) (k2 : x ≤ y) (d1 : 1 ≤ y) (d2 : y ≤ 100000000000000) :
    Calls Tryz.prog 161 #[Sg a b c d, Pt x y] w fun e w' => e = .returned (Pt (a + pa x y (c - a)) (b + pa x y (d - b))) ∧ Ext w w' := by
  obtain ⟨p0, p1⟩ := pa_bd k1 k2 d1 (n := c - a) (by omega) (by omega)
  obtain ⟨q0, q1⟩ := pa_bd k1 k2 d1 (n := d - b) (by omega) (by omega)
  have PX := Lib.hid (partOf_any x y (c - a) (k1 := k1) (k2 := k2) (d1 := d1) (d2 := d2) (n1 := by omega) (n2 := by omega))
  have PY := Lib.hid (partOf_any x y (d - b) (k1 := k1) (k2 := k2) (d1 := d1) (d2 := d2) (n1 := by omega) (n2 := by omega))
  go_enter Tryz.func161, Tryz.ntmps161
  go_wp2_with fail
  refine (vector_any _ _ _ _ _ ha hb hc hd).mono ?_
  rintro e w1 ⟨rfl, h⟩
  obtain ⟨W0, hW0⟩ : ∃ W0, W0 = (w.alloc (.cells #[.int .i64 a, .int .i64 b, .int .i64 c, .int .i64 d] 144)).alloc (.cells #[.int .i64 x, .int .i64 y] 175) := ⟨_, rfl⟩
  have hs0 : W0.heap.size = w.heap.size + 1 + 1 := by rw [hW0]; simp
  have S0 := Lib.hid ((Res.new2 (W := W0) (x := .int .i64 0) (y := .int .i64 0) (t := 113)).ext (hW0 ▸ h))
  have hX : Ext w W0 := hW0 ▸ ((Ext.refl w).alloc _).alloc _
  have cs : ∀ i v, (#[Value.int .i64 a, .int .i64 b, .int .i64 c, .int .i64 d] : Array Value)[i]? = some v → W0.cell? ⟨w.heap.size, i, none⟩ = some v := fun i v hv => by rw [hW0]; exact ((Ext.refl _).alloc _).cellOf (boxed i hv rfl)
  have cr : ∀ i v, (#[Value.int .i64 x, .int .i64 y] : Array Value)[i]? = some v → W0.cell? ⟨w.heap.size + 1, i, none⟩ = some v := fun i v hv => by rw [hW0]; exact boxed i hv (by simp)
  have z1 : w.heap.size + 1 + 1 < w1.heap.size := by have := h.size; simp at this; omega
  have S1 : ResB W0 W0.heap.size 2 w1.heap.size [.int .i64 (c - a), .int .i64 (d - b)] (w1.alloc (.cells #[.int .i64 (c - a), .int .i64 (d - b)] 113)) :=
    ⟨S0.out.ext ((Ext.refl _).alloc _), by omega, Box.new2 rfl⟩
  rw [hs0] at S1
  generalize hV : w1.alloc (.cells #[.int .i64 (c - a), .int .i64 (d - b)] 113) = V
  rw [hV] at S1
  have ea : ∀ w', ResB W0 (w.heap.size + 1 + 1) 2 w1.heap.size [.int .i64 (c - a), .int .i64 (d - b)] w' → w'.cell? ⟨w.heap.size, 0, none⟩ = some (.int .i64 a) := fun w' h => h.1.1.cellOf (cs 0 _ rfl)
  have eb : ∀ w', ResB W0 (w.heap.size + 1 + 1) 2 w1.heap.size [.int .i64 (c - a), .int .i64 (d - b)] w' → w'.cell? ⟨w.heap.size, 1, none⟩ = some (.int .i64 b) := fun w' h => h.1.1.cellOf (cs 1 _ rfl)
  have ex : ∀ w', ResB W0 (w.heap.size + 1 + 1) 2 w1.heap.size [.int .i64 (c - a), .int .i64 (d - b)] w' → w'.cell? ⟨w.heap.size + 1, 0, none⟩ = some (.int .i64 x) := fun w' h => h.1.1.cellOf (cr 0 _ rfl)
  have ey : ∀ w', ResB W0 (w.heap.size + 1 + 1) 2 w1.heap.size [.int .i64 (c - a), .int .i64 (d - b)] w' → w'.cell? ⟨w.heap.size + 1, 1, none⟩ = some (.int .i64 y) := fun w' h => h.1.1.cellOf (cr 1 _ rfl)
  have ev : ∀ w', ResB W0 (w.heap.size + 1 + 1) 2 w1.heap.size [.int .i64 (c - a), .int .i64 (d - b)] w' → w'.cell? ⟨w1.heap.size, 0, none⟩ = some (.int .i64 (c - a)) := fun w' h => h.2.2.two.1.1
  have eu : ∀ w', ResB W0 (w.heap.size + 1 + 1) 2 w1.heap.size [.int .i64 (c - a), .int .i64 (d - b)] w' → w'.cell? ⟨w1.heap.size, 1, none⟩ = some (.int .i64 (d - b)) := fun w' h => h.2.2.two.1.2
  have A1 : IntKind.i64.wrap (a + pa x y (c - a)) = a + pa x y (c - a) := IntWalk.i64_in _ (by omega)
  have A2 : IntKind.i64.wrap (b + pa x y (d - b)) = b + pa x y (d - b) := IntWalk.i64_in _ (by omega)
  clear cs cr h hW0 hs0 S0 z1
  go_wp2_with fail
  refine wp_region_held_drew (S := (ResB W0 (w.heap.size + 1 + 1) 2 w1.heap.size [.int .i64 (c - a), .int .i64 (d - b)])) (by kernel_rfl) (by (try dsimp only); first | go_keep | exact (Ext.refl _).drew | exact Res.new2.drew | exact Res.new4.drew | exact ResB.drew (by assumption) | exact ResC.drew (by assumption) | assumption | exact Ext.drew (by assumption) | exact Res.drew (by assumption)) (fun hHeld => ?_)
  refine Ord.K 0 8 ?_
  refine Ord.K 1 9 ?_
  refine Ord.K 2 10 ?_
  refine Ord.K 3 11 ?_
  refine Ord.K 4 12 ?_
  refine Ord.K 5 13 ?_
  refine Ord.K 8 16 ?_
  refine Ord.K 9 17 ?_
  refine Ord.K 10 18 ?_
  refine Ord.K 11 19 ?_
  refine Ord.K 12 20 ?_
  refine Ord.K 13 21 ?_
  (refine wpAnyH_ready (rs := [6]) (by kernel_rfl) (by simp) ?_; refine AllReadyH.cons rfl (fun K hK => ?_) AllReadyH.nil; go_simp; (first | (go_at_call 181; with_reducible refine (PX.out _).mono ?_; rintro e w2 ⟨rfl, hy⟩) | (go_at_call 181; with_reducible refine (PY.out _).mono ?_; rintro e w2 ⟨rfl, hy⟩)); go_wp2_with fail; (refine hK.out _ _ (by first | assumption | exact Ext.trans (by assumption) hy | exact Res.ext (by assumption) hy | exact ResB.ext (by assumption) hy | exact ResC.ext (by assumption) hy | (go_split_ands; (repeat' apply And.intro) <;> exact Ext.cellOf hy (by assumption))) (fun hHeld => ?_)); clear hK K; (try simp only [Act.put, Ord.a, Ord.b, Ord.c]))
  refine Ord.K 7 15 ?_
  (refine wpAnyH_ready (rs := [14]) (by kernel_rfl) (by simp) ?_; refine AllReadyH.cons rfl (fun K hK => ?_) AllReadyH.nil; go_simp; (first | (go_at_call 181; with_reducible refine (PX.out _).mono ?_; rintro e w2 ⟨rfl, hy⟩) | (go_at_call 181; with_reducible refine (PY.out _).mono ?_; rintro e w2 ⟨rfl, hy⟩)); go_wp2_with fail; (refine hK.out _ _ (by first | assumption | exact Ext.trans (by assumption) hy | exact Res.ext (by assumption) hy | exact ResB.ext (by assumption) hy | exact ResC.ext (by assumption) hy | (go_split_ands; (repeat' apply And.intro) <;> exact Ext.cellOf hy (by assumption))) (fun hHeld => ?_)); clear hK K; (try simp only [Act.put, Ord.a, Ord.b, Ord.c]))
  refine Ord.K 15 23 ?_
  refine Ord.K 16 24 ?_
  (((first | refine Exists.elim (Res.two hHeld) (fun rx rh => ?_) | refine Exists.elim (ResC.two hHeld) (fun rx rh => ?_) | refine Exists.elim (Res.two hHeld.1) (fun rx rh => ?_)); refine Exists.elim rh (fun ry rb => ?_); have r0 := rb.two.1.1; have r1 := rb.two.1.2; have r2 := rb.two.2.1; have r3 := rb.two.2.2; clear rh); refine wpAnyH_ready (rs := [17]) (by kernel_rfl) (by simp) ?_; refine AllReadyH.cons rfl (fun K hK => ?_) AllReadyH.nil; go_simp; (refine hK.out _ _ (by with_reducible exact ResB.set (ResB.set hHeld _ _) _ _) (fun hHeld => ?_)); clear hK K; (try simp only [Act.put, Ord.a, Ord.b, Ord.c]))
  refine wpAnyH_done (by kernel_rfl) ?_ _
  go_wp2
  obtain ⟨⟨g0, g1⟩, _⟩ := (rb.set2 (u := .int .i64 (a + pa x y (c - a))) (v := .int .i64 (b + pa x y (d - b)))).two
  exact bodyPost_ret (v := Pt (a + pa x y (c - a)) (b + pa x y (d - b))) (by simp [results, Tryz.results161, go_sem, g0, g1]) rfl ⟨rfl, hX.trans hHeld.1.1⟩
theorem at_small (a b c d x y : Int) (w : World) (ha : Co a) (hb : Co b) (hc : Co c) (hd : Co d) (k1 : 0 ≤ x) (k2 : x ≤ y) (d1 : 1 ≤ y) (d2 : y ≤ 1000000000) :
    Calls Tryz.prog 161 #[Sg a b c d, Pt x y] w fun e w' => e = .returned (Pt (a + pa x y (c - a)) (b + pa x y (d - b))) ∧ Ext w w' :=
  at_any a b c d x y w ha hb hc hd k1 k2 d1 (by omega)
end Go.Proofs.YtknelhceaoblhaaGreat.Trk
