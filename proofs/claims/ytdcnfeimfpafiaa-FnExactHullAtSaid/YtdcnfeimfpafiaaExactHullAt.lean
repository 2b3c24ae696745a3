/- FnExactHullAt: for all arguments, impl.HullAt and spec.HullAt answer the same, and the track is as it was. No condition. -/
import Derived.Test.YtdcnfeimfpafiaaHulA
import Derived.Test.YtdcnfeimfpafiaaHulL
import Derived.Test.YtdcnfeimfpafiaaClo
import Derived.Test.YtdcnfeimfpafiaaOpnT
import Derived.Test.YtdcnfeimfpafiaaSeg
import Derived.ChangeOld
import Derived.Below
import Derived.Lib.SmallJoins
namespace Go.Proofs.Ytdcnfeimfpafiaa.fnExactHullAt
open Go.ChangeShapes Go.WideShapes Go.ChangeAt Go.RowKit
open Go.Proofs.Ytdcnfeimfpafiaa.Kit Go.Proofs.Ytdcnfeimfpafiaa.Pts Go.Proofs.Ytdcnfeimfpafiaa.Seg Go.Proofs.Ytdcnfeimfpafiaa.Trk Go.Proofs.Ytdcnfeimfpafiaa.Hul
set_option linter.unusedVariables false
set_option linter.unusedSimpArgs false

set_option maxHeartbeats 1000000 in
theorem walk (a : Option Addr) (cap : Nat) (fs : List F3) (t l : Int) (w : World) (hf : Fxs w a fs) : Calls Try.prog 12 #[Tr (.slice a fs.length cap), .int .i64 t, .int .i64 l] w fun e w' => e = .returned (.bool true) ∧ Ext w w' := by
  have HF := Lib.hid hf
  have HM := Lib.hid hf.1
  clear hf
  by_cases hl : (1048576 : Int) - fs.length < 0
  · have H := Lib.hid (szL_neg hl)
    go_enter Try.func12, Try.ntmps12
    go_wp2_with (go_at_call 35; refine (szTrack_any _ _ _ _ _ HM.out (by decide) (by decide)).mono ?_; rw [H.out]; rintro e w1 ⟨rfl, h1⟩)
    go_ret
    exact ⟨rfl, (by repeat (first | exact Ext.refl _ | assumption | apply Ext.alloc | apply Ext.drew | (refine Ext.trans ?_ (by assumption)) | (refine Ext.setNew ?_ (by simp <;> omega) _)))⟩
  · have H := Lib.hid (szL_pos hl)
    have HL := Lib.hid (show fs.length ≤ 1048576 by omega)
    have hl2 : decide ((1048576 : Int) - fs.length < 0) = false := decide_eq_false hl
    go_enter Try.func12, Try.ntmps12
    go_wp2_with fail
    refine (szTrack_any _ _ _ _ _ HM.out (by decide) (by decide)).mono ?_
    rw [H.out]
    rintro e w1 ⟨rfl, h1⟩
    have bt : w1.cell? ⟨w.heap.size, 0, none⟩ = some (.slice a fs.length cap) := h1.cellOf (boxed 0 rfl rfl)
    have X := Lib.hid (show Ext w w1 from (by repeat (first | exact Ext.refl _ | assumption | apply Ext.alloc | apply Ext.drew | (refine Ext.trans ?_ (by assumption)) | (refine Ext.setNew ?_ (by simp <;> omega) _))))
    clear h1
    go_wp2_with fail
    refine (toTrack_any _ _ _ _ (HF.out.ext X.out) HL.out).mono ?_
    rintro e w2 ⟨B2, rfl, -, O2, h⟩
    replace bt := h.cellOf bt
    replace X := Lib.hid (X.out.trans h)
    have PB2 := Lib.hid O2
    clear h O2
    go_wp2_with fail
    refine (hullAt_spec _ _ _ _ _ _ (PB2.out.fxs HM.out) (Nat.le_refl _)).mono ?_
    rintro e w3 ⟨rfl, h⟩
    replace bt := h.cellOf bt
    replace X := Lib.hid (X.out.trans h)
    clear h PB2
    have bt1 := one_on bt
    go_wp2_with fail
    clear bt1
    refine (toTrack_any _ _ _ _ (HF.out.ext (X.out.trans ((Ext.refl _).alloc _))) HL.out).mono ?_
    rintro e w4 ⟨B4, rfl, -, O4, h⟩
    have p0 : w4.cell? ⟨w3.heap.size, 0, none⟩ = some (.int .i64 (haV fs t l (pkX fs t (legOf fs t)))) := h.cellOf (boxed 0 rfl rfl)
    have p1 : w4.cell? ⟨w3.heap.size, 1, none⟩ = some (.int .i64 (haV fs t l (pkY fs t (legOf fs t)))) := h.cellOf (boxed 1 rfl rfl)
    have p2 : w4.cell? ⟨w3.heap.size, 2, none⟩ = some (.int .i64 (haV fs t l (heX fs t))) := h.cellOf (boxed 2 rfl rfl)
    have p3 : w4.cell? ⟨w3.heap.size, 3, none⟩ = some (.int .i64 (haV fs t l (heY fs t))) := h.cellOf (boxed 3 rfl rfl)
    have p4 : w4.cell? ⟨w3.heap.size, 4, none⟩ = some (.int .i64 (haV fs t l l)) := h.cellOf (boxed 4 rfl rfl)
    replace h := ((Ext.refl w3).alloc (.cells #[.int .i64 (haV fs t l (pkX fs t (legOf fs t))), .int .i64 (haV fs t l (pkY fs t (legOf fs t))), .int .i64 (haV fs t l (heX fs t)), .int .i64 (haV fs t l (heY fs t)), .int .i64 (haV fs t l l)] 27)).trans h
    replace bt := h.cellOf bt
    replace X := Lib.hid (X.out.trans h)
    have PB4 := Lib.hid O4
    clear h O4
    go_wp2_with fail
    refine (hullAt_impl _ _ _ _ _ _ ((PB4.out.fxs HM.out).ext (by repeat (first | exact Ext.refl _ | assumption | apply Ext.alloc | apply Ext.drew | (refine Ext.trans ?_ (by assumption)) | (refine Ext.setNew ?_ (by simp <;> omega) _)))) (Nat.le_refl _)).mono ?_
    rintro e w5 ⟨rfl, h⟩
    have hx0 := ((Ext.refl w4).alloc (.cells #[.slice (some ⟨B4, 0, none⟩) fs.length fs.length] 60)).trans h
    have xt : w5.cell? ⟨w4.heap.size, 0, none⟩ = some (.slice (some ⟨B4, 0, none⟩) fs.length fs.length) := h.cellOf (boxed 0 rfl rfl)
    clear h
    replace bt := hx0.cellOf bt
    replace p0 := hx0.cellOf p0
    replace p1 := hx0.cellOf p1
    replace p2 := hx0.cellOf p2
    replace p3 := hx0.cellOf p3
    replace p4 := hx0.cellOf p4
    replace X := Lib.hid (X.out.trans hx0)
    replace PB4 := Lib.hid (PB4.out.ext hx0)
    clear hx0
    replace p0 := one_on p0
    replace p1 := one_on p1
    replace p2 := one_on p2
    replace p3 := one_on p3
    replace p4 := one_on p4
    go_wp2_with fail
    refine (eqHull_same _ _ _ _ _ _).mono ?_
    rintro e w6 ⟨rfl, h⟩
    replace p0 := h.cellOf (p0 _)
    replace p1 := h.cellOf (p1 _)
    replace p2 := h.cellOf (p2 _)
    replace p3 := h.cellOf (p3 _)
    replace p4 := h.cellOf (p4 _)
    replace h := ((Ext.refl w5).alloc (.cells #[.int .i64 (haV fs t l (pkX fs t (legOf fs t))), .int .i64 (haV fs t l (pkY fs t (legOf fs t))), .int .i64 (haV fs t l (heX fs t)), .int .i64 (haV fs t l (heY fs t)), .int .i64 (haV fs t l l)] 27)).trans h
    replace xt := h.cellOf xt
    replace bt := h.cellOf bt
    replace X := Lib.hid (X.out.trans h)
    replace PB4 := Lib.hid (PB4.out.ext h)
    clear h
    have ebt : ∀ w', Ext w6 w' → w'.cell? ⟨w.heap.size, 0, none⟩ = some (.slice a fs.length cap) := fun w' h => h.cellOf bt
    have ext : ∀ w', Ext w6 w' → w'.cell? ⟨w4.heap.size, 0, none⟩ = some (.slice (some ⟨B4, 0, none⟩) fs.length fs.length) := fun w' h => h.cellOf xt
    clear xt bt p0 p1 p2 p3 p4
    go_wp2_with fail
    refine wp_region_held_drew (S := (fun w' => Ext w6 w')) (by kernel_rfl) (by (try dsimp only); first | go_keep | exact (Ext.refl _).drew | exact Res.new2.drew | exact Res.new4.drew | exact ResB.drew (by assumption) | exact ResC.drew (by assumption) | assumption | exact Ext.drew (by assumption) | exact Res.drew (by assumption)) (fun hHeld => ?_)
    refine Ord.K 0 44 ?_
    refine Ord.K 1 45 ?_
    (refine wpAnyH_ready (rs := [2]) (by kernel_rfl) (by simp) ?_; refine AllReadyH.cons rfl (fun K hK => ?_) AllReadyH.nil; go_simp; (first | (go_at_call 37; refine (toTrack_any _ _ _ _ (HF.out.ext (X.out.trans (by first | assumption | exact (Ext.refl _).drew))) HL.out).mono ?_; rintro e w6 ⟨B6, rfl, -, O6, hy⟩) | (go_at_call 40; refine (eqTrack_same _ _ _ _ _ _ ((PB4.out.ext (by assumption)).fxs HM.out) (O6.fxs HM.out)).mono ?_; rintro e w7 ⟨rfl, hy⟩)); go_wp2_with fail; (refine hK.out _ _ (by first | assumption | exact Ext.trans (by assumption) hy | exact Res.ext (by assumption) hy | exact ResB.ext (by assumption) hy | exact ResC.ext (by assumption) hy | (go_split_ands; (repeat' apply And.intro) <;> exact Ext.cellOf hy (by assumption))) (fun hHeld => ?_)); clear hK K; (try simp only [Act.put, Ord.a, Ord.b, Ord.c]))
    (refine wpAnyH_ready (rs := [3]) (by kernel_rfl) (by simp) ?_; refine AllReadyH.cons rfl (fun K hK => ?_) AllReadyH.nil; go_simp; (first | (go_at_call 37; refine (toTrack_any _ _ _ _ (HF.out.ext (X.out.trans (by first | assumption | exact (Ext.refl _).drew))) HL.out).mono ?_; rintro e w6 ⟨B6, rfl, -, O6, hy⟩) | (go_at_call 40; refine (eqTrack_same _ _ _ _ _ _ ((PB4.out.ext (by assumption)).fxs HM.out) (O6.fxs HM.out)).mono ?_; rintro e w7 ⟨rfl, hy⟩)); go_wp2_with fail; (refine hK.out _ _ (by first | assumption | exact Ext.trans (by assumption) hy | exact Res.ext (by assumption) hy | exact ResB.ext (by assumption) hy | exact ResC.ext (by assumption) hy | (go_split_ands; (repeat' apply And.intro) <;> exact Ext.cellOf hy (by assumption))) (fun hHeld => ?_)); clear hK K; (try simp only [Act.put, Ord.a, Ord.b, Ord.c]))
    refine Ord.K 4 48 ?_
    refine wpAnyH_done (by kernel_rfl) ?_ _
    go_wp2
    go_ret
    exact ⟨rfl, X.out.trans (by assumption)⟩

theorem own : ownKnob Try.prog.godebug = none := by kernel_rfl
theorem laidOut : laidOutB Try.prog = true := Clo.laid

set_option maxRecDepth 100000 in
set_option maxHeartbeats 1000000 in
theorem lifted (os : Os) (started : os.Started) (H : Type) (enc : TypeId × Value → H) :
    ReturnsInHanded {} Try.checked os 12 .any (Rows.fnExactHullAtSpec.pre6 enc Try.prog Try.f12 Rows.fnExactHullAtRow.domain false) (Rows.fnExactHullAtSpec.post enc Try.prog Try.f12 false true false false) := by
  refine returnsInHanded_of_change (C := Try.checked) own started (by kernel_rfl) Try.func12
    (ChangeSpec.witness6 (enc := enc) (C := Try.checked) false ⟨#[], #[.agg #[.slice none 0 0], .int .i64 0, .int .i64 0], []⟩ 8 (by kernel_rfl) (by kernel_rfl) (by kernel_rfl) (by kernel_rfl)) ?_
  intro W base args ds gs before hval0 hW hcnd _
  have hval : ∀ (j : Nat) t v, Try.f12.params[j]? = some t → args[j]? = some v → Value.okWide Try.prog W .any base t v := hval0
  have hW' := hW
  obtain ⟨p, q, hA0, hV, rfl, hfz, hnd⟩ := hW
  have hA : DataW.TrodAll enc Try.prog W 0 (fun _ => true) true Try.f12.params.toList args.toList ds p := hA0
  rw [Try.params12] at hA hval
  obtain ⟨v0, vs0, d0, ds0, p0, q0, hargs, rfl, rfl, h0, r0⟩ := trodAll_cons hA
  obtain ⟨v1, vs1, d1, ds1, p1, q1, rfl, rfl, rfl, h1, r1⟩ := trodAll_cons r0
  obtain ⟨v2, vs2, d2, ds2, p2, q2, rfl, rfl, rfl, h2, r2⟩ := trodAll_cons r1
  obtain ⟨rfl, rfl, rfl⟩ := trodAll_nil r2
  obtain rfl : args = #[v0, v1, v2] := by cases args; simp_all
  obtain ⟨rfl, rfl⟩ := trodVars_none hV
  have k0 := h0
  have lt0 : ∀ x ∈ p0, x.block < W.heap.size := by obtain ⟨m, hm⟩ := k0; exact DataW.trod_lt m _ _ _ hm
  obtain ⟨a0, cap0, fs0, rfl, w0⟩ := Trk.open_track Try.underlying54 (by kernel_rfl) (by kernel_rfl) Try.underlying52 Try.underlying127 (by kernel_rfl) (by kernel_rfl) Try.underlying2 Try.underlying2 Try.underlying2 (hval 0 54 v0 rfl rfl) h0
  have k1 := h1
  have lt1 : ∀ x ∈ p1, x.block < W.heap.size := by obtain ⟨m, hm⟩ := k1; exact DataW.trod_lt m _ _ _ hm
  obtain ⟨a1, rfl, _, _, w1⟩ := open_int Try.underlying2 (hval 1 2 v1 rfl rfl) h1
  have k2 := h2
  have lt2 : ∀ x ∈ p2, x.block < W.heap.size := by obtain ⟨m, hm⟩ := k2; exact DataW.trod_lt m _ _ _ hm
  obtain ⟨a2, rfl, _, _, w2⟩ := open_int Try.underlying2 (hval 2 2 v2 rfl rfl) h2
  clear hA0 hval0
  refine (walk a0 cap0 fs0 a1 a2 W w0).mono fun e W' ⟨he, hx⟩ => ?_
  have bel := hx.below
  subst he
  exact ⟨_, rfl, _, _, _, [], _, [], hW', trodAll_mk1 (shut_bool Try.underlying4 _), (trodAll_cons_mk (Below.trod laidOut (by kernel_rfl) (of_decide_eq_true (by kernel_rfl)) k0 bel lt0) (trodAll_cons_mk (Below.trod laidOut (by kernel_rfl) (of_decide_eq_true (by kernel_rfl)) k1 bel lt1) (trodAll_cons_mk (Below.trod laidOut (by kernel_rfl) (of_decide_eq_true (by kernel_rfl)) k2 bel lt2) trodAll_mk0))), rfl, bel.frame _, fun h => by cases h⟩

set_option maxRecDepth 100000 in
set_option maxHeartbeats 400000000 in
theorem closed : joinedFacts Try.pinned.checked.prog 12 Try.f12 Rows.fnExactHullAtSpec Rows.fnExactHullAtRow = true := by
  unfold joinedFacts
  simp only [Bool.and_eq_true]
  repeat' (with_reducible refine And.intro ?_ ?_)
  all_goals (first | (with_reducible exact Clo.laid) | (with_reducible exact Clo.rowed) | (with_reducible exact Clo.heard) | (with_reducible exact Clo.enter) | (rw [Clo.lifts]; rfl) | (rw [Clo.made]; rfl) | (as_aux_lemma => kernel_rfl))

theorem proved : Rows.FnExactHullAtSaid :=
  OpenClaim.holds_of_wide 12 Try.f12 rfl rfl rfl rfl rfl rfl rfl ⟨rfl, rfl, rfl, rfl, rfl⟩ rfl rfl rfl rfl rfl (by as_aux_lemma => kernel_rfl) Try.func12 closed
    (of_decide_eq_true (by as_aux_lemma => kernel_rfl)) (by unfold Func.isWrapper; first | (rw [if_pos (by decide +kernel)]; kernel_rfl) | (rw [if_neg (by decide +kernel)]; exact ⟨rfl, rfl⟩))
    (fun os started H enc _ => lifted os started H enc)

end Go.Proofs.Ytdcnfeimfpafiaa.fnExactHullAt
