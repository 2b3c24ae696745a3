/- FnExactWayAcross: for all lines and points, impl.WayAcross and spec.WayAcross answer the same and the same code. No condition. -/
import Derived.Test.YtmliggimmfbbdaaWac
import Derived.Test.YtmliggimmfbbdaaOpn
import Derived.ChangeOld
import Derived.Below
import Derived.Lib.SmallJoins
import Derived.Deep.DeepCutAuto
namespace Go.Proofs.Ytmliggimmfbbdaa.fnExactWayAcross
open Go.ChangeShapes Go.WideShapes Go.ChangeAt Go.RowKit
open Go.Proofs.Ytmliggimmfbbdaa.Kit Go.Proofs.Ytmliggimmfbbdaa.Pts Go.Proofs.Ytmliggimmfbbdaa.Seg Go.Proofs.Ytmliggimmfbbdaa.Crs
set_option linter.unusedVariables false
set_option linter.unusedSimpArgs false

set_option maxHeartbeats 1000000 in
theorem walk (a b c d p q u v : Int) (w : World) : Calls Try.prog 3 #[Sg a b c d, Pt p q, Pt u v] w fun e w' => e = .returned (.bool true) ∧ Ext w w' := by
  obtain ⟨W0, hW0⟩ : ∃ W0, W0 = ((w.alloc (.cells #[.int .i64 a, .int .i64 b, .int .i64 c, .int .i64 d] 25)).alloc (.cells #[.int .i64 p, .int .i64 q] 23)).alloc (.cells #[.int .i64 u, .int .i64 v] 23) := ⟨_, rfl⟩
  have hx : Ext w W0 := hW0 ▸ (((Ext.refl w).alloc _).alloc _).alloc _
  have cs : ∀ i x, (#[Value.int .i64 a, .int .i64 b, .int .i64 c, .int .i64 d] : Array Value)[i]? = some x → W0.cell? ⟨w.heap.size, i, none⟩ = some x := fun i x hv => by rw [hW0]; exact (((Ext.refl _).alloc _).alloc _).cellOf (boxed i hv rfl)
  have cr : ∀ i x, (#[Value.int .i64 p, .int .i64 q] : Array Value)[i]? = some x → W0.cell? ⟨w.heap.size + 1, i, none⟩ = some x := fun i x hv => by rw [hW0]; exact ((Ext.refl _).alloc _).cellOf (boxed i hv (by simp))
  have ct : ∀ i x, (#[Value.int .i64 u, .int .i64 v] : Array Value)[i]? = some x → W0.cell? ⟨w.heap.size + 1 + 1, i, none⟩ = some x := fun i x hv => by rw [hW0]; exact boxed i hv (by simp)
  have e0 : ∀ w', Ext W0 w' → w'.cell? ⟨w.heap.size, 0, none⟩ = some (.int .i64 a) := fun w' h => h.cellOf (cs 0 _ rfl)
  have e1 : ∀ w', Ext W0 w' → w'.cell? ⟨w.heap.size, 1, none⟩ = some (.int .i64 b) := fun w' h => h.cellOf (cs 1 _ rfl)
  have e2 : ∀ w', Ext W0 w' → w'.cell? ⟨w.heap.size, 2, none⟩ = some (.int .i64 c) := fun w' h => h.cellOf (cs 2 _ rfl)
  have e3 : ∀ w', Ext W0 w' → w'.cell? ⟨w.heap.size, 3, none⟩ = some (.int .i64 d) := fun w' h => h.cellOf (cs 3 _ rfl)
  have e4 : ∀ w', Ext W0 w' → w'.cell? ⟨w.heap.size + 1, 0, none⟩ = some (.int .i64 p) := fun w' h => h.cellOf (cr 0 _ rfl)
  have e5 : ∀ w', Ext W0 w' → w'.cell? ⟨w.heap.size + 1, 1, none⟩ = some (.int .i64 q) := fun w' h => h.cellOf (cr 1 _ rfl)
  have e6 : ∀ w', Ext W0 w' → w'.cell? ⟨w.heap.size + 1 + 1, 0, none⟩ = some (.int .i64 u) := fun w' h => h.cellOf (ct 0 _ rfl)
  have e7 : ∀ w', Ext W0 w' → w'.cell? ⟨w.heap.size + 1 + 1, 1, none⟩ = some (.int .i64 v) := fun w' h => h.cellOf (ct 1 _ rfl)
  clear cs cr ct
  go_enter Try.func3, Try.ntmps3
  go_upto_region 1 with fail
  rw [← hW0]
  clear hW0
  go_cut [7, 8] (fun s t wx => s = .int .i64 (waQ a b c d p q u v) ∧ t = .int .i64 (waC a b c d p q u v) ∧ Ext W0 wx)
  case first =>
    go_region_held3 (fun w' => Ext W0 w')
      (first | exact (Ext.refl _).drew | exact Ext.trans (by assumption) hy)
      (first | (go_at_call 16; refine (toLine_any _ _ _ _ _).mono ?_; rintro e w1 ⟨rfl, hy⟩) | (go_at_call 17; refine (toPoint_any _ _ _).mono ?_; rintro e w1 ⟨rfl, hy⟩) | (go_at_call 15; refine (wayAcross_spec _ _ _ _ _ _ _ _ _).mono ?_; rintro e w1 ⟨rfl, hy⟩))
    all_goals
      go_wp2_with fail
      go_meet
      exact ⟨rfl, rfl, (by assumption)⟩
  case rest =>
    obtain ⟨rfl, rfl, hxx⟩ := hcut
    obtain ⟨wy, rfl⟩ : ∃ wy : World, wy = wc := ⟨_, rfl⟩
    replace e0 : ∀ w', Ext wy w' → w'.cell? ⟨w.heap.size, 0, none⟩ = some (.int .i64 a) := fun w' h => e0 w' (hxx.trans h)
    replace e1 : ∀ w', Ext wy w' → w'.cell? ⟨w.heap.size, 1, none⟩ = some (.int .i64 b) := fun w' h => e1 w' (hxx.trans h)
    replace e2 : ∀ w', Ext wy w' → w'.cell? ⟨w.heap.size, 2, none⟩ = some (.int .i64 c) := fun w' h => e2 w' (hxx.trans h)
    replace e3 : ∀ w', Ext wy w' → w'.cell? ⟨w.heap.size, 3, none⟩ = some (.int .i64 d) := fun w' h => e3 w' (hxx.trans h)
    replace e4 : ∀ w', Ext wy w' → w'.cell? ⟨w.heap.size + 1, 0, none⟩ = some (.int .i64 p) := fun w' h => e4 w' (hxx.trans h)
    replace e5 : ∀ w', Ext wy w' → w'.cell? ⟨w.heap.size + 1, 1, none⟩ = some (.int .i64 q) := fun w' h => e5 w' (hxx.trans h)
    replace e6 : ∀ w', Ext wy w' → w'.cell? ⟨w.heap.size + 1 + 1, 0, none⟩ = some (.int .i64 u) := fun w' h => e6 w' (hxx.trans h)
    replace e7 : ∀ w', Ext wy w' → w'.cell? ⟨w.heap.size + 1 + 1, 1, none⟩ = some (.int .i64 v) := fun w' h => e7 w' (hxx.trans h)
    replace hx := hx.trans hxx
    clear hxx
    all_goals
      go_wp2_with fail
      go_region_held3 (fun w' => Ext wy w')
        (first | exact (Ext.refl _).drew | exact Ext.trans (by assumption) hy)
        (first | (go_at_call 16; refine (toLine_any _ _ _ _ _).mono ?_; rintro e w1 ⟨rfl, hy⟩) | (go_at_call 17; refine (toPoint_any _ _ _).mono ?_; rintro e w1 ⟨rfl, hy⟩) | (go_at_call 18; refine (wayAcross_impl _ _ _ _ _ _ _ _ _).mono ?_; rintro e w1 ⟨rfl, hy⟩))
      all_goals
        go_wp2
        go_ret
        exact ⟨rfl, hx.trans (by assumption)⟩

theorem own : ownKnob Try.prog.godebug = none := by kernel_rfl
theorem laidOut : laidOutB Try.prog = true := by kernel_rfl

set_option maxRecDepth 100000 in
theorem lifted (os : Os) (started : os.Started) (H : Type) (enc : TypeId × Value → H) :
    ReturnsInHanded {} Try.checked os 3 .any (Rows.fnExactWayAcrossSpec.pre6 enc Try.prog Try.f3 Rows.fnExactWayAcrossRow.domain false) (Rows.fnExactWayAcrossSpec.post enc Try.prog Try.f3 false true false false) := by
  refine returnsInHanded_of_change (C := Try.checked) own started (by kernel_rfl) Try.func3
    (ChangeSpec.witness6 (enc := enc) (C := Try.checked) false ⟨#[], #[.agg #[.int .i64 0, .int .i64 0, .int .i64 0, .int .i64 0], .agg #[.int .i64 0, .int .i64 0], .agg #[.int .i64 0, .int .i64 0]], []⟩ 8 (by kernel_rfl) (by kernel_rfl) (by kernel_rfl) (by kernel_rfl)) ?_
  intro W base args ds gs before hval0 hW hcnd _
  have hval : ∀ (j : Nat) t v, Try.f3.params[j]? = some t → args[j]? = some v → Value.okWide Try.prog W .any base t v := hval0
  have hW' := hW
  obtain ⟨p, q, hA0, hV, rfl, hfz, hnd⟩ := hW
  have hA : DataW.TrodAll enc Try.prog W 0 (fun _ => true) true Try.f3.params.toList args.toList ds p := hA0
  rw [Try.params3] at hA hval
  obtain ⟨v0, vs0, d0, ds0, p0, q0, hargs, rfl, rfl, h0, r0⟩ := trodAll_cons hA
  obtain ⟨v1, vs1, d1, ds1, p1, q1, rfl, rfl, rfl, h1, r1⟩ := trodAll_cons r0
  obtain ⟨v2, vs2, d2, ds2, p2, q2, rfl, rfl, rfl, h2, r2⟩ := trodAll_cons r1
  obtain ⟨rfl, rfl, rfl⟩ := trodAll_nil r2
  obtain rfl : args = #[v0, v1, v2] := by cases args; simp_all
  obtain ⟨rfl, rfl⟩ := trodVars_none hV
  have k0 := h0
  have lt0 : ∀ x ∈ p0, x.block < W.heap.size := by obtain ⟨m, hm⟩ := k0; exact DataW.trod_lt m _ _ _ hm
  obtain ⟨a0, b0, c0, e0, rfl⟩ := Opn.open_seg Try.underlying25 Try.underlying23 Try.underlying23 (by kernel_rfl) rfl rfl (by kernel_rfl) (by kernel_rfl) (by kernel_rfl) (by kernel_rfl) Try.underlying2 Try.underlying2 Try.underlying2 Try.underlying2 (hval 0 25 v0 rfl rfl) h0
  have k1 := h1
  have lt1 : ∀ x ∈ p1, x.block < W.heap.size := by obtain ⟨m, hm⟩ := k1; exact DataW.trod_lt m _ _ _ hm
  obtain ⟨cx1, cy1, yx1, yy1, m1, rfl, _, _, hyx1, hyy1⟩ := Joins.open_agg2 Try.underlying23 (by kernel_rfl) (by kernel_rfl) (hval 1 23 v1 rfl rfl) h1
  obtain ⟨x1, ex1, _, wx1⟩ := DataW.trod_int Try.underlying2 hyx1
  obtain ⟨y1, ey1, _, wy1⟩ := DataW.trod_int Try.underlying2 hyy1
  simp at ex1 ey1
  subst ex1 ey1
  have k2 := h2
  have lt2 : ∀ x ∈ p2, x.block < W.heap.size := by obtain ⟨m, hm⟩ := k2; exact DataW.trod_lt m _ _ _ hm
  obtain ⟨cx2, cy2, yx2, yy2, m2, rfl, _, _, hyx2, hyy2⟩ := Joins.open_agg2 Try.underlying23 (by kernel_rfl) (by kernel_rfl) (hval 2 23 v2 rfl rfl) h2
  obtain ⟨x2, ex2, _, wx2⟩ := DataW.trod_int Try.underlying2 hyx2
  obtain ⟨y2, ey2, _, wy2⟩ := DataW.trod_int Try.underlying2 hyy2
  simp at ex2 ey2
  subst ex2 ey2
  clear hA0 hval0
  refine (walk a0 b0 c0 e0 x1 y1 x2 y2 W ).mono fun e W' ⟨he, hx⟩ => ?_
  have bel := hx.below
  subst he
  exact ⟨_, rfl, _, _, _, [], _, [], hW', trodAll_mk1 (shut_bool Try.underlying4 _), (trodAll_cons_mk (Below.trod laidOut (by kernel_rfl) (of_decide_eq_true (by kernel_rfl)) k0 bel lt0) (trodAll_cons_mk (Below.trod laidOut (by kernel_rfl) (of_decide_eq_true (by kernel_rfl)) k1 bel lt1) (trodAll_cons_mk (Below.trod laidOut (by kernel_rfl) (of_decide_eq_true (by kernel_rfl)) k2 bel lt2) trodAll_mk0))), rfl, bel.frame _, fun h => by cases h⟩

theorem proved : Rows.FnExactWayAcrossSaid :=
  OpenClaim.holds_of_wide 3 Try.f3 rfl rfl rfl rfl rfl rfl rfl ⟨rfl, rfl, rfl, rfl, rfl⟩ rfl rfl rfl rfl rfl (by kernel_rfl) Try.func3 (by kernel_rfl)
    (of_decide_eq_true (by kernel_rfl)) (by unfold Func.isWrapper; first | (rw [if_pos (by decide +kernel)]; kernel_rfl) | (rw [if_neg (by decide +kernel)]; exact ⟨rfl, rfl⟩))
    (fun os started H enc _ => lifted os started H enc)

end Go.Proofs.Ytmliggimmfbbdaa.fnExactWayAcross
