/- Contracts of PointAt (impl, spec), for all segments and ratios. -/
import Derived.Test.YtookaodccmlkoaaSat
import Derived.Test.YtookaodccmlkoaaCel
namespace Go.Proofs.Ytookaodccmlkoaa.Crs
open Go.ChangeShapes Go.WideShapes Go.ChangeAt Go.RowKit
open Go.Proofs.Ytookaodccmlkoaa.Num Go.Proofs.Ytookaodccmlkoaa.Kit Go.Proofs.Ytookaodccmlkoaa.Pts Go.Proofs.Ytookaodccmlkoaa.Seg Go.Proofs.Ytookaodccmlkoaa.Div Go.Proofs.Ytookaodccmlkoaa.Cmp
set_option linter.unusedVariables false
set_option linter.unusedSimpArgs false

/-- What PointAt answers: the point and the code. -/
def paX (a b c d x y : Int) : Int := if sgB a b c d = true ∧ raB x y 0 = true then a + pa x y (c - a) else 0
def paY (a b c d x y : Int) : Int := if sgB a b c d = true ∧ raB x y 0 = true then b + pa x y (d - b) else 0
def paC (a b c d x y : Int) : Int := if sgB a b c d = true then (if raB x y 0 = true then 0 else 2) else 1

theorem pi_done {n : Nat} {w F : World} {tmps : Array Value} {x y z : Int} {x' y' z' : Int} (B : Box F n [.int .i64 x, .int .i64 y]) (hC : Ext w F) (ha : tmps[4]? = some (.pointer (some ⟨n, 0, none⟩))) (hz : tmps[5]? = some (.int .i64 z)) (h : x' = x) (g : y' = y) (k : z' = z) :
    bodyPost Try.prog Try.f27 (fun e w' => e = .returned (.tuple #[Pt x' y', .int .i64 z']) ∧ Ext w w') Exit.ret ⟨tmps, []⟩ F := by
  obtain ⟨⟨g0, g1⟩, _⟩ := B.two
  subst h g k
  exact bodyPost_ret (v := .tuple #[Pt x' y', .int .i64 z']) (by simp [results, Try.results27, go_sem, ha, hz, g0, g1]) rfl ⟨rfl, hC⟩
theorem ps_done {n : Nat} {w F : World} {tmps : Array Value} {x y z : Int} {x' y' z' : Int} (B : Box F n [.int .i64 x, .int .i64 y]) (hC : Ext w F) (ha : tmps[4]? = some (.pointer (some ⟨n, 0, none⟩))) (hz : tmps[5]? = some (.int .i64 z)) (h : x' = x) (g : y' = y) (k : z' = z) :
    bodyPost Try.prog Try.f28 (fun e w' => e = .returned (.tuple #[Pt x' y', .int .i64 z']) ∧ Ext w w') Exit.ret ⟨tmps, []⟩ F := by
  obtain ⟨⟨g0, g1⟩, _⟩ := B.two
  subst h g k
  exact bodyPost_ret (v := .tuple #[Pt x' y', .int .i64 z']) (by simp [results, Try.results28, go_sem, ha, hz, g0, g1]) rfl ⟨rfl, hC⟩

set_option maxHeartbeats 1000000 in
theorem pointAt_impl (a b c d x y : Int) (w : World) :
    Calls Try.prog 27 #[Sg a b c d, Pt x y] w fun e w' => e = .returned (.tuple #[Pt (paX a b c d x y) (paY a b c d x y), .int .i64 (paC a b c d x y)]) ∧ Ext w w' := by
  obtain ⟨W0, hW0⟩ : ∃ W0, W0 = (w.alloc (.cells #[.int .i64 a, .int .i64 b, .int .i64 c, .int .i64 d] 59)).alloc (.cells #[.int .i64 x, .int .i64 y] 37) := ⟨_, rfl⟩
  have hX : Ext w W0 := hW0 ▸ ((Ext.refl w).alloc _).alloc _
  have hs0 : W0.heap.size = w.heap.size + 1 + 1 := by rw [hW0]; simp
  have cs : ∀ i v, (#[Value.int .i64 a, .int .i64 b, .int .i64 c, .int .i64 d] : Array Value)[i]? = some v → W0.cell? ⟨w.heap.size, i, none⟩ = some v := fun i v hv => by rw [hW0]; exact ((Ext.refl _).alloc _).cellOf (boxed i hv rfl)
  have cr : ∀ i v, (#[Value.int .i64 x, .int .i64 y] : Array Value)[i]? = some v → W0.cell? ⟨w.heap.size + 1, i, none⟩ = some v := fun i v hv => by rw [hW0]; exact boxed i hv (by simp)
  have S0 := Res.new2 (W := W0) (x := .int .i64 0) (y := .int .i64 0) (t := 25)
  rw [hs0] at S0
  have e0 : ∀ w', Res W0 (w.heap.size + 1 + 1) 2 w' → w'.cell? ⟨w.heap.size, 0, none⟩ = some (.int .i64 a) := fun w' h => h.1.cellOf (cs 0 _ rfl)
  have e1 : ∀ w', Res W0 (w.heap.size + 1 + 1) 2 w' → w'.cell? ⟨w.heap.size, 1, none⟩ = some (.int .i64 b) := fun w' h => h.1.cellOf (cs 1 _ rfl)
  have e2 : ∀ w', Res W0 (w.heap.size + 1 + 1) 2 w' → w'.cell? ⟨w.heap.size, 2, none⟩ = some (.int .i64 c) := fun w' h => h.1.cellOf (cs 2 _ rfl)
  have e3 : ∀ w', Res W0 (w.heap.size + 1 + 1) 2 w' → w'.cell? ⟨w.heap.size, 3, none⟩ = some (.int .i64 d) := fun w' h => h.1.cellOf (cs 3 _ rfl)
  have e4 : ∀ w', Res W0 (w.heap.size + 1 + 1) 2 w' → w'.cell? ⟨w.heap.size + 1, 0, none⟩ = some (.int .i64 x) := fun w' h => h.1.cellOf (cr 0 _ rfl)
  have e5 : ∀ w', Res W0 (w.heap.size + 1 + 1) 2 w' → w'.cell? ⟨w.heap.size + 1, 1, none⟩ = some (.int .i64 y) := fun w' h => h.1.cellOf (cr 1 _ rfl)
  clear cs cr
  generalize hW1 : W0.alloc (.cells #[.int .i64 0, .int .i64 0] 25) = W1 at S0
  go_enter Try.func27, Try.ntmps27
  go_wp2_with fail
  refine (sgValid_any _ _ _ _ _).mono ?_
  rintro e w1 ⟨rfl, hy⟩
  rw [← hW0, hW1] at hy
  have S1 := S0.ext hy
  clear S0 hy hW0 hW1 hs0
  cases h1 : sgB a b c d
  · have HX := Lib.hid (show paX a b c d x y = 0 from if_neg (by simp [h1]))
    have HY := Lib.hid (show paY a b c d x y = 0 from if_neg (by simp [h1]))
    have HC := Lib.hid (show paC a b c d x y = 1 from if_neg (by simp [h1]))
    obtain ⟨x0, y0, B⟩ := S1.two
    obtain ⟨⟨r0, r1⟩, r2, r3⟩ := B.two
    have XB := Lib.hid B
    clear B
    go_wp2
    exact pi_done (XB.out.set2) (hX.trans ((S1.set 0 _).set 1 _).1) rfl rfl HX.out HY.out HC.out
  go_wp2_with fail
  refine (isWithin0_any _ _ _).mono ?_
  rintro e w2 ⟨rfl, hy⟩
  replace S1 := S1.ext hy
  clear hy
  cases h2 : raB x y 0
  · have HX := Lib.hid (show paX a b c d x y = 0 from if_neg (by simp [h2]))
    have HY := Lib.hid (show paY a b c d x y = 0 from if_neg (by simp [h2]))
    have HC := Lib.hid (show paC a b c d x y = 2 from (if_pos h1).trans (if_neg (by simp [h2])))
    obtain ⟨x0, y0, B⟩ := S1.two
    obtain ⟨⟨r0, r1⟩, r2, r3⟩ := B.two
    have XB := Lib.hid B
    clear B
    go_wp2
    exact pi_done (XB.out.set2) (hX.trans ((S1.set 0 _).set 1 _).1) rfl rfl HX.out HY.out HC.out
  have HX := Lib.hid (show paX a b c d x y = a + pa x y (c - a) from if_pos ⟨h1, h2⟩)
  have HY := Lib.hid (show paY a b c d x y = b + pa x y (d - b) from if_pos ⟨h1, h2⟩)
  have HC := Lib.hid (show paC a b c d x y = 0 from (if_pos h1).trans (if_pos h2))
  obtain ⟨⟨ga, gb, gc, gd⟩, _⟩ := sgB_yes h1
  obtain ⟨y1, y2, x1, x2⟩ := raB_yes h2
  go_wp2_with fail
  refine (at_any _ _ _ _ _ _ _ ga gb gc gd (by omega) x2 y1 y2).mono ?_
  rintro e w3 ⟨rfl, hy⟩
  replace S1 := S1.ext hy
  clear hy e0 e1 e2 e3 e4 e5
  obtain ⟨x0, y0, B⟩ := S1.two
  obtain ⟨⟨r0, r1⟩, r2, r3⟩ := B.two
  have XB := Lib.hid B
  clear B
  generalize a + pa x y (c - a) = PX at *
  generalize b + pa x y (d - b) = PY at *
  go_wp2
  exact pi_done (XB.out.set2) (hX.trans ((S1.set 0 _).set 1 _).1) rfl rfl HX.out HY.out HC.out

set_option maxHeartbeats 1000000 in
theorem pointAt_spec (a b c d x y : Int) (w : World) :
    Calls Try.prog 28 #[Sg a b c d, Pt x y] w fun e w' => e = .returned (.tuple #[Pt (paX a b c d x y) (paY a b c d x y), .int .i64 (paC a b c d x y)]) ∧ Ext w w' := by
  obtain ⟨W0, hW0⟩ : ∃ W0, W0 = (w.alloc (.cells #[.int .i64 a, .int .i64 b, .int .i64 c, .int .i64 d] 59)).alloc (.cells #[.int .i64 x, .int .i64 y] 37) := ⟨_, rfl⟩
  have hX : Ext w W0 := hW0 ▸ ((Ext.refl w).alloc _).alloc _
  have hs0 : W0.heap.size = w.heap.size + 1 + 1 := by rw [hW0]; simp
  have cs : ∀ i v, (#[Value.int .i64 a, .int .i64 b, .int .i64 c, .int .i64 d] : Array Value)[i]? = some v → W0.cell? ⟨w.heap.size, i, none⟩ = some v := fun i v hv => by rw [hW0]; exact ((Ext.refl _).alloc _).cellOf (boxed i hv rfl)
  have cr : ∀ i v, (#[Value.int .i64 x, .int .i64 y] : Array Value)[i]? = some v → W0.cell? ⟨w.heap.size + 1, i, none⟩ = some v := fun i v hv => by rw [hW0]; exact boxed i hv (by simp)
  have S0 := Res.new2 (W := W0) (x := .int .i64 0) (y := .int .i64 0) (t := 25)
  rw [hs0] at S0
  have e0 : ∀ w', Res W0 (w.heap.size + 1 + 1) 2 w' → w'.cell? ⟨w.heap.size, 0, none⟩ = some (.int .i64 a) := fun w' h => h.1.cellOf (cs 0 _ rfl)
  have e1 : ∀ w', Res W0 (w.heap.size + 1 + 1) 2 w' → w'.cell? ⟨w.heap.size, 1, none⟩ = some (.int .i64 b) := fun w' h => h.1.cellOf (cs 1 _ rfl)
  have e2 : ∀ w', Res W0 (w.heap.size + 1 + 1) 2 w' → w'.cell? ⟨w.heap.size, 2, none⟩ = some (.int .i64 c) := fun w' h => h.1.cellOf (cs 2 _ rfl)
  have e3 : ∀ w', Res W0 (w.heap.size + 1 + 1) 2 w' → w'.cell? ⟨w.heap.size, 3, none⟩ = some (.int .i64 d) := fun w' h => h.1.cellOf (cs 3 _ rfl)
  have e4 : ∀ w', Res W0 (w.heap.size + 1 + 1) 2 w' → w'.cell? ⟨w.heap.size + 1, 0, none⟩ = some (.int .i64 x) := fun w' h => h.1.cellOf (cr 0 _ rfl)
  have e5 : ∀ w', Res W0 (w.heap.size + 1 + 1) 2 w' → w'.cell? ⟨w.heap.size + 1, 1, none⟩ = some (.int .i64 y) := fun w' h => h.1.cellOf (cr 1 _ rfl)
  clear cs cr
  generalize hW1 : W0.alloc (.cells #[.int .i64 0, .int .i64 0] 25) = W1 at S0
  go_enter Try.func28, Try.ntmps28
  go_wp2_with fail
  refine (isSegment_spec _ _ _ _ _).mono ?_
  rintro e w1 ⟨rfl, hy⟩
  rw [← hW0, hW1] at hy
  have S1 := S0.ext hy
  clear S0 hy hW0 hW1 hs0
  cases h1 : sgB a b c d
  · have HX := Lib.hid (show paX a b c d x y = 0 from if_neg (by simp [h1]))
    have HY := Lib.hid (show paY a b c d x y = 0 from if_neg (by simp [h1]))
    have HC := Lib.hid (show paC a b c d x y = 1 from if_neg (by simp [h1]))
    obtain ⟨x0, y0, B⟩ := S1.two
    obtain ⟨⟨r0, r1⟩, r2, r3⟩ := B.two
    have XB := Lib.hid B
    clear B
    go_wp2
    exact ps_done (XB.out.set2) (hX.trans ((S1.set 0 _).set 1 _).1) rfl rfl HX.out HY.out HC.out
  by_cases ky : 1 ≤ y ∧ y ≤ 100000000000000
  rotate_left
  · have hr : raB x y 0 = false := by
      cases hh : raB x y 0
      · rfl
      · exfalso; have := raB_yes hh; omega
    have HX := Lib.hid (show paX a b c d x y = 0 from if_neg (by simp [hr]))
    have HY := Lib.hid (show paY a b c d x y = 0 from if_neg (by simp [hr]))
    have HC := Lib.hid (show paC a b c d x y = 2 from (if_pos h1).trans (if_neg (by simp [hr])))
    have iy := inB_no ky
    clear hr ky
    obtain ⟨x0, y0, B⟩ := S1.two
    obtain ⟨⟨r0, r1⟩, r2, r3⟩ := B.two
    have XB := Lib.hid B
    clear B
    go_wp2_with (go_at_call 70; refine (in_any _ _ _ _).mono ?_; rintro e w' ⟨rfl, rfl⟩)
    exact ps_done (XB.out.set2) (hX.trans ((S1.set 0 _).set 1 _).1) rfl rfl HX.out HY.out HC.out
  have iy := inB_yes ky.1 ky.2
  by_cases kx : 0 ≤ x ∧ x ≤ y
  rotate_left
  · have hr : raB x y 0 = false := by
      cases hh : raB x y 0
      · rfl
      · exfalso; have := raB_yes hh; omega
    have HX := Lib.hid (show paX a b c d x y = 0 from if_neg (by simp [hr]))
    have HY := Lib.hid (show paY a b c d x y = 0 from if_neg (by simp [hr]))
    have HC := Lib.hid (show paC a b c d x y = 2 from (if_pos h1).trans (if_neg (by simp [hr])))
    have ix := inB_no kx
    clear hr kx
    obtain ⟨x0, y0, B⟩ := S1.two
    obtain ⟨⟨r0, r1⟩, r2, r3⟩ := B.two
    have XB := Lib.hid B
    clear B
    go_wp2_with (go_at_call 70; refine (in_any _ _ _ _).mono ?_; rintro e w' ⟨rfl, rfl⟩)
    exact ps_done (XB.out.set2) (hX.trans ((S1.set 0 _).set 1 _).1) rfl rfl HX.out HY.out HC.out
  have ix := inB_yes kx.1 kx.2
  have h2 : raB x y 0 = true := by unfold raB; rw [decide_eq_true ky.1, decide_eq_true ky.2, decide_eq_true (by omega : 0 * y ≤ x), decide_eq_true kx.2]; rfl
  have HX := Lib.hid (show paX a b c d x y = a + pa x y (c - a) from if_pos ⟨h1, h2⟩)
  have HY := Lib.hid (show paY a b c d x y = b + pa x y (d - b) from if_pos ⟨h1, h2⟩)
  have HC := Lib.hid (show paC a b c d x y = 0 from (if_pos h1).trans (if_pos h2))
  obtain ⟨⟨ga, gb, gc, gd⟩, _⟩ := sgB_yes h1
  obtain ⟨y1, y2, x1, x2⟩ := raB_yes h2
  have PX := Lib.hid (fun w' => atS_any a c x y w' ga gc (by omega) x2 y1 y2)
  have PY := Lib.hid (fun w' => atS_any b d x y w' gb gd (by omega) x2 y1 y2)
  clear h1 h2
  go_wp2_with (go_at_call 70; refine (in_any _ _ _ _).mono ?_; rintro e w' ⟨rfl, rfl⟩)
  refine wp_region_held_drew (S := (Res W0 (w.heap.size + 1 + 1) 2)) (by kernel_rfl) (by (try dsimp only); first | go_keep | exact (Ext.refl _).drew | exact Res.new2.drew | exact Res.new4.drew | exact ResB.drew (by assumption) | exact ResC.drew (by assumption) | assumption | exact Ext.drew (by assumption) | exact Res.drew (by assumption)) (fun hHeld => ?_)
  (refine Ord.takeH 0 23 (v := ?_) rfl rfl (by kernel_rfl) (by kernel_rfl) (by kernel_rfl) (fun _ _ _ h => h) (by rfl) ?_ (by assumption) ?_; rotate_left; (intro w hSw; (try dsimp only at hSw); go_simp; (first | done | with_reducible rfl)); (try simp only [Act.put, List.setIfInBounds_toArray, List.set_cons_zero, List.set_cons_succ]))
  (refine Ord.takeH 1 24 (v := ?_) rfl rfl (by kernel_rfl) (by kernel_rfl) (by kernel_rfl) (fun _ _ _ h => h) (by rfl) ?_ (by assumption) ?_; rotate_left; (intro w hSw; (try dsimp only at hSw); go_simp; (first | done | with_reducible rfl)); (try simp only [Act.put, List.setIfInBounds_toArray, List.set_cons_zero, List.set_cons_succ]))
  (refine Ord.takeH 2 25 (v := ?_) rfl rfl (by kernel_rfl) (by kernel_rfl) (by kernel_rfl) (fun _ _ _ h => h) (by rfl) ?_ (by assumption) ?_; rotate_left; (intro w hSw; (try dsimp only at hSw); go_simp; (first | done | with_reducible rfl)); (try simp only [Act.put, List.setIfInBounds_toArray, List.set_cons_zero, List.set_cons_succ]))
  (refine Ord.takeH 3 26 (v := ?_) rfl rfl (by kernel_rfl) (by kernel_rfl) (by kernel_rfl) (fun _ _ _ h => h) (by rfl) ?_ (by assumption) ?_; rotate_left; (intro w hSw; (try dsimp only at hSw); go_simp; (first | done | with_reducible rfl)); (try simp only [Act.put, List.setIfInBounds_toArray, List.set_cons_zero, List.set_cons_succ]))
  (refine Ord.takeH 4 27 (v := ?_) rfl rfl (by kernel_rfl) (by kernel_rfl) (by kernel_rfl) (fun _ _ _ h => h) (by rfl) ?_ (by assumption) ?_; rotate_left; (intro w hSw; (try dsimp only at hSw); go_simp; (first | done | with_reducible rfl)); (try simp only [Act.put, List.setIfInBounds_toArray, List.set_cons_zero, List.set_cons_succ]))
  (refine Ord.takeH 5 28 (v := ?_) rfl rfl (by kernel_rfl) (by kernel_rfl) (by kernel_rfl) (fun _ _ _ h => h) (by rfl) ?_ (by assumption) ?_; rotate_left; (intro w hSw; (try dsimp only at hSw); go_simp; (first | done | with_reducible rfl)); (try simp only [Act.put, List.setIfInBounds_toArray, List.set_cons_zero, List.set_cons_succ]))
  (refine Ord.takeH 6 29 (v := ?_) rfl rfl (by kernel_rfl) (by kernel_rfl) (by kernel_rfl) (fun _ _ _ h => h) (by rfl) ?_ (by assumption) ?_; rotate_left; (intro w hSw; (try dsimp only at hSw); go_simp; (first | done | with_reducible rfl)); (try simp only [Act.put, List.setIfInBounds_toArray, List.set_cons_zero, List.set_cons_succ]))
  (refine Ord.takeH 8 31 (v := ?_) rfl rfl (by kernel_rfl) (by kernel_rfl) (by kernel_rfl) (fun _ _ _ h => h) (by rfl) ?_ (by assumption) ?_; rotate_left; (intro w hSw; (try dsimp only at hSw); go_simp; (first | done | with_reducible rfl)); (try simp only [Act.put, List.setIfInBounds_toArray, List.set_cons_zero, List.set_cons_succ]))
  (refine Ord.takeH 9 32 (v := ?_) rfl rfl (by kernel_rfl) (by kernel_rfl) (by kernel_rfl) (fun _ _ _ h => h) (by rfl) ?_ (by assumption) ?_; rotate_left; (intro w hSw; (try dsimp only at hSw); go_simp; (first | done | with_reducible rfl)); (try simp only [Act.put, List.setIfInBounds_toArray, List.set_cons_zero, List.set_cons_succ]))
  (refine Ord.takeH 10 33 (v := ?_) rfl rfl (by kernel_rfl) (by kernel_rfl) (by kernel_rfl) (fun _ _ _ h => h) (by rfl) ?_ (by assumption) ?_; rotate_left; (intro w hSw; (try dsimp only at hSw); go_simp; (first | done | with_reducible rfl)); (try simp only [Act.put, List.setIfInBounds_toArray, List.set_cons_zero, List.set_cons_succ]))
  (refine Ord.takeH 11 34 (v := ?_) rfl rfl (by kernel_rfl) (by kernel_rfl) (by kernel_rfl) (fun _ _ _ h => h) (by rfl) ?_ (by assumption) ?_; rotate_left; (intro w hSw; (try dsimp only at hSw); go_simp; (first | done | with_reducible rfl)); (try simp only [Act.put, List.setIfInBounds_toArray, List.set_cons_zero, List.set_cons_succ]))
  (refine Ord.takeH 12 35 (v := ?_) rfl rfl (by kernel_rfl) (by kernel_rfl) (by kernel_rfl) (fun _ _ _ h => h) (by rfl) ?_ (by assumption) ?_; rotate_left; (intro w hSw; (try dsimp only at hSw); go_simp; (first | done | with_reducible rfl)); (try simp only [Act.put, List.setIfInBounds_toArray, List.set_cons_zero, List.set_cons_succ]))
  (refine Ord.takeH 13 36 (v := ?_) rfl rfl (by kernel_rfl) (by kernel_rfl) (by kernel_rfl) (fun _ _ _ h => h) (by rfl) ?_ (by assumption) ?_; rotate_left; (intro w hSw; (try dsimp only at hSw); go_simp; (first | done | with_reducible rfl)); (try simp only [Act.put, List.setIfInBounds_toArray, List.set_cons_zero, List.set_cons_succ]))
  (refine Ord.takeH 14 37 (v := ?_) rfl rfl (by kernel_rfl) (by kernel_rfl) (by kernel_rfl) (fun _ _ _ h => h) (by rfl) ?_ (by assumption) ?_; rotate_left; (intro w hSw; (try dsimp only at hSw); go_simp; (first | done | with_reducible rfl)); (try simp only [Act.put, List.setIfInBounds_toArray, List.set_cons_zero, List.set_cons_succ]))
  (refine wpAnyH_ready (rs := [7]) (by kernel_rfl) (by simp) ?_; refine AllReadyH.cons rfl (fun K hK => ?_) AllReadyH.nil; go_simp; (first | (go_at_call 71; with_reducible refine (PX.out _).mono ?_; rintro e w2 ⟨rfl, hy⟩) | (go_at_call 71; with_reducible refine (PY.out _).mono ?_; rintro e w2 ⟨rfl, hy⟩)); go_wp2_with fail; (refine hK.out _ _ (by first | assumption | exact Ext.trans (by assumption) hy | exact Res.ext (by assumption) hy | exact ResB.ext (by assumption) hy | exact ResC.ext (by assumption) hy | (go_split_ands; (repeat' apply And.intro) <;> exact Ext.cellOf hy (by assumption))) (fun hHeld => ?_)); clear hK K; (try simp only [Act.put, List.setIfInBounds_toArray, List.set_cons_zero, List.set_cons_succ]))
  (refine wpAnyH_ready (rs := [15]) (by kernel_rfl) (by simp) ?_; refine AllReadyH.cons rfl (fun K hK => ?_) AllReadyH.nil; go_simp; (first | (go_at_call 71; with_reducible refine (PX.out _).mono ?_; rintro e w2 ⟨rfl, hy⟩) | (go_at_call 71; with_reducible refine (PY.out _).mono ?_; rintro e w2 ⟨rfl, hy⟩)); go_wp2_with fail; (refine hK.out _ _ (by first | assumption | exact Ext.trans (by assumption) hy | exact Res.ext (by assumption) hy | exact ResB.ext (by assumption) hy | exact ResC.ext (by assumption) hy | (go_split_ands; (repeat' apply And.intro) <;> exact Ext.cellOf hy (by assumption))) (fun hHeld => ?_)); clear hK K; (try simp only [Act.put, List.setIfInBounds_toArray, List.set_cons_zero, List.set_cons_succ]))
  (refine Ord.takeH 16 39 (v := ?_) rfl rfl (by kernel_rfl) (by kernel_rfl) (by kernel_rfl) (fun _ _ _ h => h) (by rfl) ?_ (by assumption) ?_; rotate_left; (intro w hSw; (try dsimp only at hSw); go_simp; (first | done | with_reducible rfl)); (try simp only [Act.put, List.setIfInBounds_toArray, List.set_cons_zero, List.set_cons_succ]))
  ((first | ((first | refine Exists.elim (Res.two hHeld) (fun rx rh => ?_) | refine Exists.elim (ResC.two hHeld) (fun rx rh => ?_) | refine Exists.elim (Res.two hHeld.1) (fun rx rh => ?_)); refine Exists.elim rh (fun ry rb => ?_); have r0 := rb.two.1.1; have r1 := rb.two.1.2; have r2 := rb.two.2.1; have r3 := rb.two.2.2; clear rh) | ((first | refine Exists.elim (Res.four hHeld) (fun rx rh => ?_) | refine Exists.elim (Res.four hHeld.1) (fun rx rh => ?_)); refine Exists.elim rh (fun ry rh => ?_); refine Exists.elim rh (fun rz rh => ?_); refine Exists.elim rh (fun ru rb => ?_); have r0 := rb.four.1.1; have r1 := rb.four.1.2.1; have r2 := rb.four.1.2.2.1; have r3 := rb.four.1.2.2.2; have r4 := rb.four.2.1; have r5 := rb.four.2.2.1; have r6 := rb.four.2.2.2.1; have r7 := rb.four.2.2.2.2; clear rh) | (refine Exists.elim (Res.three hHeld) (fun rx rh => ?_); refine Exists.elim rh (fun ry rh => ?_); refine Exists.elim rh (fun rz rb => ?_); have r0 := rb.three'.1.1; have r1 := rb.three'.1.2.1; have r2 := rb.three'.1.2.2; have r3 := rb.three'.2.1; have r4 := rb.three'.2.2.1; have r5 := rb.three'.2.2.2; clear rh; (try simp only [World.cell?_drew, World.frozen?_drew] at r0 r1 r2 r3 r4 r5)) | (refine Exists.elim (Res.five hHeld) (fun rx rh => ?_); refine Exists.elim rh (fun ry rh => ?_); refine Exists.elim rh (fun rz rh => ?_); refine Exists.elim rh (fun ru rh => ?_); refine Exists.elim rh (fun rt rb => ?_); have r0 := rb.five.1.1; have r1 := rb.five.1.2.1; have r2 := rb.five.1.2.2.1; have r3 := rb.five.1.2.2.2.1; have r4 := rb.five.1.2.2.2.2; have r5 := rb.five.2.1; have r6 := rb.five.2.2.1; have r7 := rb.five.2.2.2.1; have r8 := rb.five.2.2.2.2.1; have r9 := rb.five.2.2.2.2.2; clear rh; (try simp only [World.cell?_drew, World.frozen?_drew] at r0 r1 r2 r3 r4 r5 r6 r7 r8 r9)) | (refine Exists.elim (SD.one hHeld) (fun rx rh => ?_); have r0 := rh.1; have r1 := rh.2; clear rh)); refine wpAnyH_ready (rs := [17]) (by kernel_rfl) (by simp) ?_; refine AllReadyH.cons rfl (fun K hK => ?_) AllReadyH.nil; go_simp; (refine hK.out _ _ (by first | with_reducible exact SD.set hHeld _ | with_reducible exact Res.set (Res.set hHeld _ _) _ _ | with_reducible exact ResB.set (ResB.set hHeld _ _) _ _ | with_reducible exact ResC.set (ResC.set hHeld _ _) _ _ | with_reducible exact Res.set (Res.set (Res.set (Res.set hHeld _ _) _ _) _ _) _ _ | with_reducible exact Res.set (Res.set (Res.set hHeld _ _) _ _) _ _ | with_reducible exact Res.set (Res.set (Res.set (Res.set (Res.set hHeld _ _) _ _) _ _) _ _) _ _) (fun hHeld => ?_)); clear hK K; (try simp only [Act.put, List.setIfInBounds_toArray, List.set_cons_zero, List.set_cons_succ]))
  (refine Ord.takeH 18 5 (v := ?_) rfl rfl (by kernel_rfl) (by kernel_rfl) (by kernel_rfl) (fun _ _ _ h => h) (by rfl) ?_ (by assumption) ?_; rotate_left; (intro w hSw; (try dsimp only at hSw); go_simp; (first | done | with_reducible rfl)); (try simp only [Act.put, List.setIfInBounds_toArray, List.set_cons_zero, List.set_cons_succ]))
  refine wpAnyH_done (by kernel_rfl) ?_ _
  go_wp2
  exact ps_done (rb.set2) (hX.trans hHeld.1) rfl rfl HX.out HY.out HC.out

end Go.Proofs.Ytookaodccmlkoaa.Crs
