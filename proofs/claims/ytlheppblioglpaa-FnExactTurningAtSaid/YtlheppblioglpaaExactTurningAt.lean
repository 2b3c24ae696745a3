/- FnExactTurningAt: for every wind, track, time and span, impl.TurningAt and spec.TurningAt answer the same, with the same code, and the track is as it was. No condition. -/
import Derived.Test.YtlheppblioglpaaTrn2
import Derived.Test.YtlheppblioglpaaClo
import Derived.Test.YtlheppblioglpaaOpnT
import Derived.ChangeOld
import Derived.Below
import Derived.Deep.DeepCutAuto
import Derived.Lib.SmallJoins
namespace Go.Proofs.Ytlheppblioglpaa.fnExactTurningAt
open Go.ChangeShapes Go.WideShapes Go.ChangeAt Go.RowKit
open Go.Proofs.Ytlheppblioglpaa.Kit Go.Proofs.Ytlheppblioglpaa.Pts Go.Proofs.Ytlheppblioglpaa.Wnd Go.Proofs.Ytlheppblioglpaa.Trk Go.Proofs.Ytlheppblioglpaa.Trn
set_option linter.unusedVariables false
set_option linter.unusedSimpArgs false

set_option maxRecDepth 100000 in
set_option maxHeartbeats 4000000 in
theorem walk (x y : Int) (a : Option Addr) (cap : Nat) (fs : List F3) (t s : Int) (w : World) (hf1 : Fxs w a fs) : Calls Try.prog 6 #[Pt x y, Tr (.slice a fs.length cap), .int .i64 t, .int .i64 s] w fun e w' => e = .returned (.bool true) ∧ Ext w w' := by
  have HF1 := Lib.hid hf1
  have HM1 := Lib.hid hf1.1
  clear hf1
  have KS := Lib.hid (fun (a : Option Addr) (cap : Nat) (w : World) (hf : Fxs w a fs) => turningAt_spec x y a cap fs t s w hf)
  have KI := Lib.hid (fun (hl : fs.length ≤ 1048576) (a : Option Addr) (w : World) (hf : Fxs w a fs) => turningAt_impl x y a fs.length fs t s w hf hl)
  generalize tuB x y fs t s = V at *
  generalize tuC x y fs t s = C at *
  obtain ⟨W0, hW0⟩ : ∃ W0, W0 = (w.alloc (.cells #[.int .i64 x, .int .i64 y] 58)).alloc (.cells #[.slice a fs.length cap] 70) := ⟨_, rfl⟩
  have hX : Ext w W0 := hW0 ▸ (((Ext.refl w).alloc _).alloc _)
  have hs0 : W0.heap.size = w.heap.size + 1 + 1 := by rw [hW0]; simp
  have e00 : ∀ w', (Ext W0) w' → w'.cell? ⟨w.heap.size, 0, none⟩ = some (.int .i64 x) := fun w' h => h.cellOf (by rw [hW0]; exact ((Ext.refl _).alloc _).cellOf (boxed 0 rfl (by simp)))
  have e01 : ∀ w', (Ext W0) w' → w'.cell? ⟨w.heap.size, 1, none⟩ = some (.int .i64 y) := fun w' h => h.cellOf (by rw [hW0]; exact ((Ext.refl _).alloc _).cellOf (boxed 1 rfl (by simp)))
  have e10 : ∀ w', (Ext W0) w' → w'.cell? ⟨w.heap.size + 1, 0, none⟩ = some (.slice a fs.length cap) := fun w' h => h.cellOf (by rw [hW0]; exact boxed 0 rfl (by simp))
  have hr0 := Ext.refl W0
  have q10 := e10 W0 hr0
  go_enter Try.func6, Try.ntmps6
  go_wp2_with fail
  refine (szTrack_any _ _ _ _ _ HM1.out (by omega) (by omega)).mono ?_
  rintro e z1 ⟨rfl, hz⟩
  rw [← hW0] at hz
  clear hW0 hr0 q10
  replace hz : Ext W0 z1 := hz
  by_cases hl1 : (1048576 : Int) - fs.length < 0
  · rw [szL_neg hl1]
    go_wp2
    go_ret
    exact ⟨rfl, hX.trans hz⟩
  have hl1b : decide ((1048576 : Int) - fs.length < 0) = false := decide_eq_false hl1
  have HL1 := Lib.hid (show fs.length ≤ 1048576 by omega)
  rw [szL_pos hl1]
  have TT1 := Lib.hid (fun w' (h : Ext w w') => toTrack_any a cap fs w' (HF1.out.ext h) HL1.out)
  go_wp2_with fail
  refine wp_region_held_drew (S := (fun w' => Ext W0 w')) (by kernel_rfl) (by (try dsimp only); first | go_keep | exact (Ext.refl _).drew | exact Res.new2.drew | exact Res.new4.drew | exact ResB.drew (by assumption) | exact ResC.drew (by assumption) | assumption | exact Ext.drew (by assumption) | exact Res.drew (by assumption)) (fun hHeld => ?_)
  refine Ord.K 0 21 ?_
  refine Ord.K 2 23 ?_
  refine Ord.K 4 25 ?_
  refine Ord.K 5 26 ?_
  (refine wpAnyH_ready (rs := [1]) (by kernel_rfl) (by simp) ?_; refine AllReadyH.cons rfl (fun K hK => ?_) AllReadyH.nil; go_simp; (first | (go_at_call 25; refine (TT1.out _ (hX.trans (by assumption))).mono ?_; rintro e w1 ⟨B1, rfl, -, O1, hy⟩; have R1 := O1.fxs HM1.out) | (go_at_call 21; refine (toWind_any _ _ _).mono ?_; rintro e w1 ⟨rfl, hy⟩; (try replace R1 := Fxs.ext R1 hy)) | (go_at_call 18; refine (KS.out _ _ _ R1).mono ?_; rintro e z2 ⟨rfl, hy⟩)); go_wp2_with fail; (refine hK.out _ _ (by first | assumption | exact Ext.trans (by assumption) hy | exact Res.ext (by assumption) hy | exact ResB.ext (by assumption) hy | exact ResC.ext (by assumption) hy | (go_split_ands; (repeat' apply And.intro) <;> exact Ext.cellOf hy (by assumption))) (fun hHeld => ?_)); clear hK K; (try simp only [Act.put, Ord.a, Ord.b, Ord.c]))
  (refine wpAnyH_ready (rs := [3]) (by kernel_rfl) (by simp) ?_; refine AllReadyH.cons rfl (fun K hK => ?_) AllReadyH.nil; go_simp; (first | (go_at_call 25; refine (TT1.out _ (hX.trans (by assumption))).mono ?_; rintro e w1 ⟨B1, rfl, -, O1, hy⟩; have R1 := O1.fxs HM1.out) | (go_at_call 21; refine (toWind_any _ _ _).mono ?_; rintro e w1 ⟨rfl, hy⟩; (try replace R1 := Fxs.ext R1 hy)) | (go_at_call 18; refine (KS.out _ _ _ R1).mono ?_; rintro e z2 ⟨rfl, hy⟩)); go_wp2_with fail; (refine hK.out _ _ (by first | assumption | exact Ext.trans (by assumption) hy | exact Res.ext (by assumption) hy | exact ResB.ext (by assumption) hy | exact ResC.ext (by assumption) hy | (go_split_ands; (repeat' apply And.intro) <;> exact Ext.cellOf hy (by assumption))) (fun hHeld => ?_)); clear hK K; (try simp only [Act.put, Ord.a, Ord.b, Ord.c]))
  (refine wpAnyH_ready (rs := [6]) (by kernel_rfl) (by simp) ?_; refine AllReadyH.cons rfl (fun K hK => ?_) AllReadyH.nil; go_simp; (first | (go_at_call 25; refine (TT1.out _ (hX.trans (by assumption))).mono ?_; rintro e w1 ⟨B1, rfl, -, O1, hy⟩; have R1 := O1.fxs HM1.out) | (go_at_call 21; refine (toWind_any _ _ _).mono ?_; rintro e w1 ⟨rfl, hy⟩; (try replace R1 := Fxs.ext R1 hy)) | (go_at_call 18; refine (KS.out _ _ _ R1).mono ?_; rintro e z2 ⟨rfl, hy⟩)); go_wp2_with fail; (refine hK.out _ _ (by first | assumption | exact Ext.trans (by assumption) hy | exact Res.ext (by assumption) hy | exact ResB.ext (by assumption) hy | exact ResC.ext (by assumption) hy | (go_split_ands; (repeat' apply And.intro) <;> exact Ext.cellOf hy (by assumption))) (fun hHeld => ?_)); clear hK K; (try simp only [Act.put, Ord.a, Ord.b, Ord.c]))
  refine Ord.K 7 20 ?_
  refine Ord.K 8 28 ?_
  refine Ord.K 9 29 ?_
  refine Ord.K 10 10 ?_
  refine Ord.K 11 11 ?_
  refine wpAnyH_done (by kernel_rfl) ?_ _
  have X := Lib.hid (show Ext W0 z2 from hHeld)
  clear hHeld R1 hz hy O1
  have t10 := e10 z2 X.out
  go_wp2_with fail
  refine (toTrack_any a cap fs _ (HF1.out.ext (hX.trans X.out)) HL1.out).mono ?_
  rintro e y1 ⟨C1, rfl, hC1, P1, hy⟩
  generalize hV1 : y1.alloc (.cells #[.slice (some ⟨C1, 0, none⟩) fs.length fs.length] 46) = V1
  have hyV : Ext y1 V1 := hV1 ▸ (Ext.refl _).alloc _
  replace P1 := Lib.hid (P1.ext hyV)
  have EX := Lib.hid (X.out.trans (hy.trans hyV))
  have b1 : ∀ w', Ext V1 w' → w'.cell? ⟨y1.heap.size, 0, none⟩ = some (.slice (some ⟨C1, 0, none⟩) fs.length fs.length) := fun w' h => h.cellOf (hV1 ▸ boxed 0 rfl rfl)
  have f00 : ∀ w', Ext V1 w' → w'.cell? ⟨w.heap.size, 0, none⟩ = some (.int .i64 x) := fun w' h => e00 w' (EX.out.trans h)
  have f01 : ∀ w', Ext V1 w' → w'.cell? ⟨w.heap.size, 1, none⟩ = some (.int .i64 y) := fun w' h => e01 w' (EX.out.trans h)
  have f10 : ∀ w', Ext V1 w' → w'.cell? ⟨w.heap.size + 1, 0, none⟩ = some (.slice a fs.length cap) := fun w' h => e10 w' (EX.out.trans h)
  clear hy hyV t10 e00 e01 e10 X
  go_upto_region 7 with fail
  try rw [hV1]
  clear hV1
  have hv1 := Ext.refl V1
  refine wp_region_held_drew (S := (fun w' => Ext V1 w')) (by kernel_rfl) (by (try dsimp only); first | go_keep | exact (Ext.refl _).drew | exact Res.new2.drew | exact Res.new4.drew | exact ResB.drew (by assumption) | exact ResC.drew (by assumption) | assumption | exact Ext.drew (by assumption) | exact Res.drew (by assumption)) (fun hHeld => ?_)
  refine Ord.K 0 33 ?_
  refine Ord.K 2 35 ?_
  refine Ord.K 3 36 ?_
  refine Ord.K 4 37 ?_
  (refine wpAnyH_ready (rs := [1]) (by kernel_rfl) (by simp) ?_; refine AllReadyH.cons rfl (fun K hK => ?_) AllReadyH.nil; go_simp; (first | (go_at_call 21; refine (toWind_any _ _ _).mono ?_; rintro e w1 ⟨rfl, hy⟩) | (go_at_call 17; refine (KI.out HL1.out _ _ ((P1.out.ext (by assumption)).fxs HM1.out)).mono ?_; rintro e z3 ⟨rfl, hy⟩)); go_wp2_with fail; (refine hK.out _ _ (by first | assumption | exact Ext.trans (by assumption) hy | exact Res.ext (by assumption) hy | exact ResB.ext (by assumption) hy | exact ResC.ext (by assumption) hy | (go_split_ands; (repeat' apply And.intro) <;> exact Ext.cellOf hy (by assumption))) (fun hHeld => ?_)); clear hK K; (try simp only [Act.put, Ord.a, Ord.b, Ord.c]))
  (refine wpAnyH_ready (rs := [5]) (by kernel_rfl) (by simp) ?_; refine AllReadyH.cons rfl (fun K hK => ?_) AllReadyH.nil; go_simp; (first | (go_at_call 21; refine (toWind_any _ _ _).mono ?_; rintro e w1 ⟨rfl, hy⟩) | (go_at_call 17; refine (KI.out HL1.out _ _ ((P1.out.ext (by assumption)).fxs HM1.out)).mono ?_; rintro e z3 ⟨rfl, hy⟩)); go_wp2_with fail; (refine hK.out _ _ (by first | assumption | exact Ext.trans (by assumption) hy | exact Res.ext (by assumption) hy | exact ResB.ext (by assumption) hy | exact ResC.ext (by assumption) hy | (go_split_ands; (repeat' apply And.intro) <;> exact Ext.cellOf hy (by assumption))) (fun hHeld => ?_)); clear hK K; (try simp only [Act.put, Ord.a, Ord.b, Ord.c]))
  refine Ord.K 6 32 ?_
  refine Ord.K 7 39 ?_
  refine Ord.K 8 40 ?_
  refine Ord.K 9 13 ?_
  refine Ord.K 10 14 ?_
  refine wpAnyH_done (by kernel_rfl) ?_ _
  have h3 : Ext V1 z3 := hHeld
  clear hHeld hy hv1
  replace P1 := Lib.hid (P1.out.ext h3)
  replace EX := Lib.hid (EX.out.trans h3)
  replace b1 : ∀ w', Ext z3 w' → w'.cell? ⟨y1.heap.size, 0, none⟩ = some (.slice (some ⟨C1, 0, none⟩) fs.length fs.length) := fun w' h => b1 w' (h3.trans h)
  replace f10 : ∀ w', Ext z3 w' → w'.cell? ⟨w.heap.size + 1, 0, none⟩ = some (.slice a fs.length cap) := fun w' h => f10 w' (h3.trans h)
  clear h3 f00 f01
  have hz3 := Ext.refl z3
  cases V
  all_goals
    go_upto_region 10 with fail
    refine wp_region_held_drew (S := (fun w' => Ext z3 w')) (by kernel_rfl) (by (try dsimp only); first | go_keep | exact (Ext.refl _).drew | exact Res.new2.drew | exact Res.new4.drew | exact ResB.drew (by assumption) | exact ResC.drew (by assumption) | assumption | exact Ext.drew (by assumption) | exact Res.drew (by assumption)) (fun hHeld => ?_)
    refine Ord.K 0 49 ?_
    refine Ord.K 1 50 ?_
    (refine wpAnyH_ready (rs := [2]) (by kernel_rfl) (by simp) ?_; refine AllReadyH.cons rfl (fun K hK => ?_) AllReadyH.nil; go_simp; (first | (go_at_call 25; refine (toTrack_any a cap fs _ (HF1.out.ext (hX.trans (EX.out.trans (by first | assumption | exact (Ext.refl _).drew)))) HL1.out).mono ?_; rintro e w1 ⟨B1, rfl, -, Q1, hy⟩) | (go_at_call 26; refine (eqTrack_same _ _ _ _ _ _ ((P1.out.ext (by assumption)).fxs HM1.out) (Q1.fxs HM1.out)).mono ?_; rintro e z5 ⟨rfl, hy⟩)); go_wp2_with fail; (refine hK.out _ _ (by first | assumption | exact Ext.trans (by assumption) hy | exact Res.ext (by assumption) hy | exact ResB.ext (by assumption) hy | exact ResC.ext (by assumption) hy | (go_split_ands; (repeat' apply And.intro) <;> exact Ext.cellOf hy (by assumption))) (fun hHeld => ?_)); clear hK K; (try simp only [Act.put, Ord.a, Ord.b, Ord.c]))
    (refine wpAnyH_ready (rs := [3]) (by kernel_rfl) (by simp) ?_; refine AllReadyH.cons rfl (fun K hK => ?_) AllReadyH.nil; go_simp; (first | (go_at_call 25; refine (toTrack_any a cap fs _ (HF1.out.ext (hX.trans (EX.out.trans (by first | assumption | exact (Ext.refl _).drew)))) HL1.out).mono ?_; rintro e w1 ⟨B1, rfl, -, Q1, hy⟩) | (go_at_call 26; refine (eqTrack_same _ _ _ _ _ _ ((P1.out.ext (by assumption)).fxs HM1.out) (Q1.fxs HM1.out)).mono ?_; rintro e z5 ⟨rfl, hy⟩)); go_wp2_with fail; (refine hK.out _ _ (by first | assumption | exact Ext.trans (by assumption) hy | exact Res.ext (by assumption) hy | exact ResB.ext (by assumption) hy | exact ResC.ext (by assumption) hy | (go_split_ands; (repeat' apply And.intro) <;> exact Ext.cellOf hy (by assumption))) (fun hHeld => ?_)); clear hK K; (try simp only [Act.put, Ord.a, Ord.b, Ord.c]))
    refine Ord.K 4 53 ?_
    refine wpAnyH_done (by kernel_rfl) ?_ _
    go_wp2
    go_ret
    exact ⟨rfl, hX.trans (EX.out.trans (by assumption))⟩

theorem own : ownKnob Try.prog.godebug = none := by kernel_rfl
theorem laidOut : laidOutB Try.prog = true := Clo.laid

set_option maxRecDepth 100000 in
set_option maxHeartbeats 1000000 in
theorem lifted (os : Os) (started : os.Started) (H : Type) (enc : TypeId × Value → H) :
    ReturnsInHanded {} Try.checked os 6 .any (Rows.fnExactTurningAtSpec.pre6 enc Try.prog Try.f6 Rows.fnExactTurningAtRow.domain false) (Rows.fnExactTurningAtSpec.post enc Try.prog Try.f6 false true false false) := by
  refine returnsInHanded_of_change (C := Try.checked) own started (by kernel_rfl) Try.func6
    (ChangeSpec.witness6 (enc := enc) (C := Try.checked) false ⟨#[], #[.agg #[.int .i64 0, .int .i64 0], .agg #[.slice none 0 0], .int .i64 0, .int .i64 0], []⟩ 8 (by kernel_rfl) (by kernel_rfl) (by kernel_rfl) (by kernel_rfl)) ?_
  intro W base args ds gs before hval0 hW hcnd _
  have hval : ∀ (j : Nat) t v, Try.f6.params[j]? = some t → args[j]? = some v → Value.okWide Try.prog W .any base t v := hval0
  have hW' := hW
  obtain ⟨p, q, hA0, hV, rfl, hfz, hnd⟩ := hW
  have hA : DataW.TrodAll enc Try.prog W 0 (fun _ => true) true Try.f6.params.toList args.toList ds p := hA0
  rw [Try.params6] at hA hval
  obtain ⟨v0, vs0, d0, ds0, p0, q0, hargs, rfl, rfl, h0, r0⟩ := trodAll_cons hA
  obtain ⟨v1, vs1, d1, ds1, p1, q1, rfl, rfl, rfl, h1, r1⟩ := trodAll_cons r0
  obtain ⟨v2, vs2, d2, ds2, p2, q2, rfl, rfl, rfl, h2, r2⟩ := trodAll_cons r1
  obtain ⟨v3, vs3, d3, ds3, p3, q3, rfl, rfl, rfl, h3, r3⟩ := trodAll_cons r2
  obtain ⟨rfl, rfl, rfl⟩ := trodAll_nil r3
  obtain rfl : args = #[v0, v1, v2, v3] := by cases args; simp_all
  obtain ⟨rfl, rfl⟩ := trodVars_none hV
  have k0 := h0
  have lt0 : ∀ x ∈ p0, x.block < W.heap.size := by obtain ⟨m, hm⟩ := k0; exact DataW.trod_lt m _ _ _ hm
  obtain ⟨cx0, cy0, yx0, yy0, m0, rfl, _, _, hyx0, hyy0⟩ := Joins.open_agg2 Try.underlying58 (by kernel_rfl) (by kernel_rfl) (hval 0 58 v0 rfl rfl) h0
  obtain ⟨x0, ex0, _, wx0⟩ := DataW.trod_int Try.underlying2 hyx0
  obtain ⟨y0, ey0, _, wy0⟩ := DataW.trod_int Try.underlying2 hyy0
  simp at ex0 ey0
  subst ex0 ey0
  have k1 := h1
  have lt1 : ∀ x ∈ p1, x.block < W.heap.size := by obtain ⟨m, hm⟩ := k1; exact DataW.trod_lt m _ _ _ hm
  obtain ⟨a1, cap1, fs1, rfl, w1⟩ := Trk.open_track Try.underlying70 (by kernel_rfl) (by kernel_rfl) Try.underlying68 Try.underlying145 (by kernel_rfl) (by kernel_rfl) Try.underlying2 Try.underlying2 Try.underlying2 (hval 1 70 v1 rfl rfl) h1
  have k2 := h2
  have lt2 : ∀ x ∈ p2, x.block < W.heap.size := by obtain ⟨m, hm⟩ := k2; exact DataW.trod_lt m _ _ _ hm
  obtain ⟨a2, rfl, _, _, w2⟩ := open_int Try.underlying2 (hval 2 2 v2 rfl rfl) h2
  have k3 := h3
  have lt3 : ∀ x ∈ p3, x.block < W.heap.size := by obtain ⟨m, hm⟩ := k3; exact DataW.trod_lt m _ _ _ hm
  obtain ⟨a3, rfl, _, _, w3⟩ := open_int Try.underlying2 (hval 3 2 v3 rfl rfl) h3
  clear hA0 hval0
  refine (walk x0 y0 a1 cap1 fs1 a2 a3 W w1).mono fun e W' ⟨he, hx⟩ => ?_
  have bel := hx.below
  subst he
  exact ⟨_, rfl, _, _, _, [], _, [], hW', trodAll_mk1 (shut_bool Try.underlying4 _), (trodAll_cons_mk (Below.trod laidOut (by kernel_rfl) (of_decide_eq_true (by kernel_rfl)) k0 bel lt0) (trodAll_cons_mk (Below.trod laidOut (by kernel_rfl) (of_decide_eq_true (by kernel_rfl)) k1 bel lt1) (trodAll_cons_mk (Below.trod laidOut (by kernel_rfl) (of_decide_eq_true (by kernel_rfl)) k2 bel lt2) (trodAll_cons_mk (Below.trod laidOut (by kernel_rfl) (of_decide_eq_true (by kernel_rfl)) k3 bel lt3) trodAll_mk0)))), rfl, bel.frame _, fun h => by cases h⟩

set_option maxRecDepth 100000 in
set_option maxHeartbeats 400000000 in
theorem closed : joinedFacts Try.pinned.checked.prog 6 Try.f6 Rows.fnExactTurningAtSpec Rows.fnExactTurningAtRow = true := by
  unfold joinedFacts
  simp only [Bool.and_eq_true]
  repeat' (with_reducible refine And.intro ?_ ?_)
  all_goals (first | (with_reducible exact Clo.laid) | (with_reducible exact Clo.rowed) | (with_reducible exact Clo.heard) | (with_reducible exact Clo.enter) | (rw [Clo.lifts]; rfl) | (rw [Clo.made]; rfl) | (as_aux_lemma => kernel_rfl))

theorem proved : Rows.FnExactTurningAtSaid :=
  OpenClaim.holds_of_wide 6 Try.f6 rfl rfl rfl rfl rfl rfl rfl ⟨rfl, rfl, rfl, rfl, rfl⟩ rfl rfl rfl rfl rfl (by as_aux_lemma => kernel_rfl) Try.func6 closed
    (of_decide_eq_true (by as_aux_lemma => kernel_rfl)) (by unfold Func.isWrapper; first | (rw [if_pos (by decide +kernel)]; kernel_rfl) | (rw [if_neg (by decide +kernel)]; exact ⟨rfl, rfl⟩))
    (fun os started H enc _ => lifted os started H enc)

end Go.Proofs.Ytlheppblioglpaa.fnExactTurningAt
