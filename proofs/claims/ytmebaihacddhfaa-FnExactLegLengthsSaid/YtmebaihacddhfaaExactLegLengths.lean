/- FnExactLegLengths: for all courses, impl.LegLengths and spec.LegLengths answer the same, the course is as it was, and the answer has a row of its own. No condition. -/
import Derived.Test.YtmebaihacddhfaaIno
import Derived.Test.YtmebaihacddhfaaMtx
import Derived.Test.YtmebaihacddhfaaOpnC
import Derived.ChangeOld
import Derived.Below
import Derived.Lib.SmallJoins
namespace Go.Proofs.Ytmebaihacddhfaa.fnExactLegLengths
open Go.ChangeShapes Go.WideShapes Go.ChangeAt Go.RowKit
open Go.Proofs.Ytmebaihacddhfaa.Kit Go.Proofs.Ytmebaihacddhfaa.Pts Go.Proofs.Ytmebaihacddhfaa.Seg Go.Proofs.Ytmebaihacddhfaa.Crs
set_option linter.unusedVariables false
set_option linter.unusedSimpArgs false

set_option maxRecDepth 100000 in
set_option maxHeartbeats 4000000 in
theorem walk (l k : L4) (a : Option Addr) (cap : Nat) (ms : List M5) (w : World) (hf : Mks w a ms) : Calls Try.prog 8 #[CV l k (.slice a ms.length cap)] w fun e w' => e = .returned (.bool true) ∧ Ext w w' := by
  have HM := Lib.hid hf.1
  obtain ⟨W0, hW0⟩ : ∃ W0, W0 = w.alloc (.cells (cellsC l k (.slice a ms.length cap)).toArray 57) := ⟨_, rfl⟩
  have HW := Lib.hid (show Ext w W0 from hW0 ▸ (Ext.refl w).alloc _)
  have BB := Lib.hid (show Box W0 w.heap.size (cellsC l k (.slice a ms.length cap)) from hW0 ▸ Box.new rfl)
  have HF := Lib.hid (hf.ext HW.out)
  clear hf
  have PS := Lib.hid (fun w (h : Mks w a ms) => szCourse_any l k a cap ms 1048576 w h (by decide) (by decide))
  by_cases hl : szR 1048576 ms < 0
  · rw [if_pos hl] at PS
    go_enter Try.func8, Try.ntmps8
    go_wp2_with fail
    rw [← hW0]
    clear hW0
    refine (PS.out _ HF.out).mono ?_
    rintro e w1 ⟨rfl, h1⟩
    go_wp2
    go_ret
    exact ⟨rfl, HW.out.trans h1⟩
  · rw [if_neg hl] at PS
    have HL := Lib.hid (szR_yes hl (by decide) (by decide)).1
    obtain ⟨S, hS⟩ : ∃ S, S = szR 1048576 ms := ⟨_, rfl⟩
    rw [← hS] at PS hl
    clear hS
    have hl2 : decide (S < 0) = false := decide_eq_false hl
    have KS := Lib.hid (fun (a : Option Addr) (cap : Nat) (w : World) (hf : Mks w a ms) => lengths_spec l k a cap ms w hf)
    have KI := Lib.hid (fun (a : Option Addr) (cap : Nat) (w : World) (hf : Mks w a ms) => lengths_impl l k a cap ms w hf)
    have HP := Lib.hid (llZ_len l k ms)
    obtain ⟨ck, hck⟩ : ∃ ck, ck = llC l k ms := ⟨_, rfl⟩
    obtain ⟨ps, hps⟩ : ∃ ps, ps = llZ l k ms := ⟨_, rfl⟩
    rw [← hck, ← hps] at KS KI
    rw [← hps] at HP
    clear hck hps
    have HP2 := Lib.hid (show ps.length ≤ maxLen by unfold maxLen; have := HP.out; omega)
    have HP3 := Lib.hid (show ps.length ≤ 1000 by have := HP.out; omega)
    go_enter Try.func8, Try.ntmps8
    go_wp2_with fail
    rw [← hW0]
    clear hW0
    refine (PS.out _ HF.out).mono ?_
    rintro e w1 ⟨rfl, h⟩
    have X := Lib.hid h
    have z1 := World.block_lt_of_cell? w1 _ ((BB.out.ext h) 0 _ rfl).1
    simp at z1
    clear h
    obtain ⟨⟨p0, p1, p2, p3, p4, p5, p6, p7, p8⟩, _⟩ := Box.nine (BB.out.ext X.out)
    go_wp2_with fail
    refine (toCourse_any _ _ _ _ _ _ (HF.out.ext X.out) HL.out).mono ?_
    rintro e w2 ⟨B2, rfl, -, O2, h⟩
    have z2 := Ext.size h
    replace X := Lib.hid (X.out.trans h)
    have P2 := Lib.hid O2
    clear h O2 p0 p1 p2 p3 p4 p5 p6 p7 p8
    go_wp2_with fail
    refine (KS.out _ _ _ (P2.out.mks HM.out)).mono ?_
    rintro e w3 ⟨v0, rfl, O0, h⟩
    have z3 := Ext.size h
    replace X := Lib.hid (X.out.trans h)
    obtain ⟨a0, cap0, rfl, F0⟩ := O0.zxs HP2.out
    replace F0 := Lib.hid F0
    have EX := Lib.hid (Ext.refl w3)
    clear h P2 O0
    obtain ⟨⟨p0, p1, p2, p3, p4, p5, p6, p7, p8⟩, _⟩ := Box.nine (BB.out.ext X.out)
    go_wp2_with fail
    refine (toCourse_any _ _ _ _ _ _ (HF.out.ext X.out) HL.out).mono ?_
    rintro e w4 ⟨B4, rfl, l4, O4, h⟩
    have z4 := Ext.size h
    have n4 : 0 < ms.length → B4 < w4.heap.size := fun h0 => World.block_lt_of_cell? w4 _ (O4 0 h0).1.1
    replace EX := Lib.hid (EX.out.trans h)
    have P4 := Lib.hid O4
    clear h O4 p0 p1 p2 p3 p4 p5 p6 p7 p8
    go_wp2_with fail
    refine (KI.out _ _ _ ((P4.out.mks HM.out).ext (by repeat (first | exact Ext.refl _ | assumption | apply Ext.alloc | apply Ext.drew | (refine Ext.trans ?_ (by assumption)) | (refine Ext.setNew ?_ (by simp <;> omega) _))))).mono ?_
    rintro e w5 ⟨v1, rfl, O1, h⟩
    have BX := Lib.hid ((Box.new (w := w4) (vs := cellsC l k (.slice (some ⟨B4, 0, none⟩) ms.length ms.length)) (t := 30) rfl).ext h)
    have z5 := Ext.size h
    simp at O1 z5
    replace h := ((Ext.refl w4).alloc (.cells (cellsC l k (.slice (some ⟨B4, 0, none⟩) ms.length ms.length)).toArray 30)).trans h
    replace P4 := Lib.hid (P4.out.ext h)
    replace EX := Lib.hid (EX.out.trans h)
    clear h
    obtain ⟨a1, cap1, rfl, F1⟩ := O1.zxs HP2.out
    have P1 := Lib.hid O1
    go_wp2_with fail
    refine (eqInt64S_same _ _ _ _ _ _ F1 (F0.out.ext EX.out)).mono ?_
    rintro e w6 ⟨rfl, h⟩
    replace P4 := Lib.hid (P4.out.ext h)
    replace EX := Lib.hid (EX.out.trans h)
    replace P1 := Lib.hid (P1.out.ext h)
    replace BX := Lib.hid (BX.out.ext h)
    clear h O1 F1
    have B5 := Lib.hid (BB.out.ext (X.out.trans EX.out))
    have e10 : ∀ w', Ext w6 w' → w'.cell? ⟨w.heap.size, 0, none⟩ = some (.int .i64 l.a) := fun w' h => h.cellOf (B5.out 0 _ rfl).1
    have e11 : ∀ w', Ext w6 w' → w'.cell? ⟨w.heap.size, 1, none⟩ = some (.int .i64 l.b) := fun w' h => h.cellOf (B5.out 1 _ rfl).1
    have e12 : ∀ w', Ext w6 w' → w'.cell? ⟨w.heap.size, 2, none⟩ = some (.int .i64 l.c) := fun w' h => h.cellOf (B5.out 2 _ rfl).1
    have e13 : ∀ w', Ext w6 w' → w'.cell? ⟨w.heap.size, 3, none⟩ = some (.int .i64 l.d) := fun w' h => h.cellOf (B5.out 3 _ rfl).1
    have e14 : ∀ w', Ext w6 w' → w'.cell? ⟨w.heap.size, 4, none⟩ = some (.int .i64 k.a) := fun w' h => h.cellOf (B5.out 4 _ rfl).1
    have e15 : ∀ w', Ext w6 w' → w'.cell? ⟨w.heap.size, 5, none⟩ = some (.int .i64 k.b) := fun w' h => h.cellOf (B5.out 5 _ rfl).1
    have e16 : ∀ w', Ext w6 w' → w'.cell? ⟨w.heap.size, 6, none⟩ = some (.int .i64 k.c) := fun w' h => h.cellOf (B5.out 6 _ rfl).1
    have e17 : ∀ w', Ext w6 w' → w'.cell? ⟨w.heap.size, 7, none⟩ = some (.int .i64 k.d) := fun w' h => h.cellOf (B5.out 7 _ rfl).1
    have e18 : ∀ w', Ext w6 w' → w'.cell? ⟨w.heap.size, 8, none⟩ = some (.slice a ms.length cap) := fun w' h => h.cellOf (B5.out 8 _ rfl).1
    have f10 : ∀ w', Ext w6 w' → w'.cell? ⟨w4.heap.size, 0, none⟩ = some (.int .i64 l.a) := fun w' h => h.cellOf (BX.out 0 _ rfl).1
    have f11 : ∀ w', Ext w6 w' → w'.cell? ⟨w4.heap.size, 1, none⟩ = some (.int .i64 l.b) := fun w' h => h.cellOf (BX.out 1 _ rfl).1
    have f12 : ∀ w', Ext w6 w' → w'.cell? ⟨w4.heap.size, 2, none⟩ = some (.int .i64 l.c) := fun w' h => h.cellOf (BX.out 2 _ rfl).1
    have f13 : ∀ w', Ext w6 w' → w'.cell? ⟨w4.heap.size, 3, none⟩ = some (.int .i64 l.d) := fun w' h => h.cellOf (BX.out 3 _ rfl).1
    have f14 : ∀ w', Ext w6 w' → w'.cell? ⟨w4.heap.size, 4, none⟩ = some (.int .i64 k.a) := fun w' h => h.cellOf (BX.out 4 _ rfl).1
    have f15 : ∀ w', Ext w6 w' → w'.cell? ⟨w4.heap.size, 5, none⟩ = some (.int .i64 k.b) := fun w' h => h.cellOf (BX.out 5 _ rfl).1
    have f16 : ∀ w', Ext w6 w' → w'.cell? ⟨w4.heap.size, 6, none⟩ = some (.int .i64 k.c) := fun w' h => h.cellOf (BX.out 6 _ rfl).1
    have f17 : ∀ w', Ext w6 w' → w'.cell? ⟨w4.heap.size, 7, none⟩ = some (.int .i64 k.d) := fun w' h => h.cellOf (BX.out 7 _ rfl).1
    have f18 : ∀ w', Ext w6 w' → w'.cell? ⟨w4.heap.size, 8, none⟩ = some (.slice (some ⟨B4, 0, none⟩) ms.length ms.length) := fun w' h => h.cellOf (BX.out 8 _ rfl).1
    go_wp2_with fail
    refine wp_region_held_drew (S := (fun w' => Ext w6 w')) (by kernel_rfl) (by (try dsimp only); first | go_keep | exact (Ext.refl _).drew | exact Res.new2.drew | exact Res.new4.drew | exact ResB.drew (by assumption) | exact ResC.drew (by assumption) | assumption | exact Res.drew (by assumption)) (fun hHeld => ?_)
    (refine Ord.takeH 0 41 (v := ?_) rfl rfl (by kernel_rfl) (by kernel_rfl) (by kernel_rfl) (fun _ _ _ h => h) (by rfl) ?_ (by assumption) ?_; rotate_left; (intro w hSw; (try dsimp only at hSw); go_simp; (first | done | with_reducible rfl)); (try simp only [Act.put, List.setIfInBounds_toArray, List.set_cons_zero, List.set_cons_succ]))
    (refine Ord.takeH 1 42 (v := ?_) rfl rfl (by kernel_rfl) (by kernel_rfl) (by kernel_rfl) (fun _ _ _ h => h) (by rfl) ?_ (by assumption) ?_; rotate_left; (intro w hSw; (try dsimp only at hSw); go_simp; (first | done | with_reducible rfl)); (try simp only [Act.put, List.setIfInBounds_toArray, List.set_cons_zero, List.set_cons_succ]))
    (refine wpAnyH_ready (rs := [2]) (by kernel_rfl) (by simp) ?_; refine AllReadyH.cons rfl (fun K hK => ?_) AllReadyH.nil; go_simp; (first | (go_at_call 29; refine (toCourse_any _ _ _ _ _ _ (HF.out.ext (X.out.trans (EX.out.trans (by first | assumption | exact (Ext.refl _).drew)))) HL.out).mono ?_; rintro e w7 ⟨B6, rfl, -, O6, hy⟩) | (go_at_call 30; refine (eqCourse_same _ _ _ _ _ _ _ _ ((P4.out.ext (by assumption)).mks HM.out) (O6.mks HM.out)).mono ?_; rintro e w8 ⟨rfl, hy⟩)); go_wp2_with fail; (refine hK.out _ _ (by first | assumption | exact Ext.trans (by assumption) hy | exact Res.ext (by assumption) hy | exact ResB.ext (by assumption) hy | exact ResC.ext (by assumption) hy | (go_split_ands; (repeat' apply And.intro) <;> exact Ext.cellOf hy (by assumption))) (fun hHeld => ?_)); clear hK K; (try simp only [Act.put, List.setIfInBounds_toArray, List.set_cons_zero, List.set_cons_succ]))
    (refine wpAnyH_ready (rs := [3]) (by kernel_rfl) (by simp) ?_; refine AllReadyH.cons rfl (fun K hK => ?_) AllReadyH.nil; go_simp; (first | (go_at_call 29; refine (toCourse_any _ _ _ _ _ _ (HF.out.ext (X.out.trans (EX.out.trans (by first | assumption | exact (Ext.refl _).drew)))) HL.out).mono ?_; rintro e w7 ⟨B6, rfl, -, O6, hy⟩) | (go_at_call 30; refine (eqCourse_same _ _ _ _ _ _ _ _ ((P4.out.ext (by assumption)).mks HM.out) (O6.mks HM.out)).mono ?_; rintro e w8 ⟨rfl, hy⟩)); go_wp2_with fail; (refine hK.out _ _ (by first | assumption | exact Ext.trans (by assumption) hy | exact Res.ext (by assumption) hy | exact ResB.ext (by assumption) hy | exact ResC.ext (by assumption) hy | (go_split_ands; (repeat' apply And.intro) <;> exact Ext.cellOf hy (by assumption))) (fun hHeld => ?_)); clear hK K; (try simp only [Act.put, List.setIfInBounds_toArray, List.set_cons_zero, List.set_cons_succ]))
    (refine Ord.takeH 4 45 (v := ?_) rfl rfl (by kernel_rfl) (by kernel_rfl) (by kernel_rfl) (fun _ _ _ h => h) (by rfl) ?_ (by assumption) ?_; rotate_left; (intro w hSw; (try dsimp only at hSw); go_simp; (first | done | with_reducible rfl)); (try simp only [Act.put, List.setIfInBounds_toArray, List.set_cons_zero, List.set_cons_succ]))
    refine wpAnyH_done (by kernel_rfl) ?_ _
    have h : Ext w6 w8 := hHeld
    replace P4 := Lib.hid (P4.out.ext h)
    replace EX := Lib.hid (EX.out.trans h)
    replace P1 := Lib.hid (P1.out.ext h)
    replace BX := Lib.hid (BX.out.ext h)
    clear h hHeld hy O6 e10 e11 e12 e13 e14 e15 e16 e17 e18 f10 f11 f12 f13 f14 f15 f16 f17 f18 B5
    obtain ⟨⟨p0, p1, p2, p3, p4, p5, p6, p7, p8⟩, _⟩ := Box.nine BX.out
    have HL5 := HL.out
    have zn : decide (((1 + 5 * ms.length : Nat) : Int) < 0) = false := decide_eq_false (by omega)
    have zn2 : ¬ (((1 + 5 * ms.length : Nat) : Int) < 0) := by omega
    go_wp2_with fail
    refine (markCourse_any l k B4 _ w4.heap.size ms 1 _ P4.out HL.out (by omega)).mono ?_
    rintro e w9 ⟨rfl, C, hC, h⟩
    have c1 : w3.heap.size ≤ C := by rcases hC with ⟨_, rfl⟩ | rfl <;> omega
    have c2 : C ≤ w4.heap.size := by
      rcases hC with ⟨h0, rfl⟩ | rfl
      · have := n4 h0; omega
      · omega
    clear hC p0 p1 p2 p3 p4 p5 p6 p7 p8
    replace EX := Lib.hid (h.ext EX.out c1)
    replace P1 := Lib.hid (P1.out.chg h (P1.out.block (by omega)))
    clear h P4 BX
    obtain ⟨_, _, e1, F1⟩ := P1.out.zxs HP2.out
    cases e1
    go_wp2_with fail
    refine (eqInt64S_same _ _ _ _ _ _ F1 (F0.out.ext EX.out)).mono ?_
    rintro e w10 ⟨rfl, h⟩
    replace EX := Lib.hid (EX.out.trans h)
    replace P1 := Lib.hid (P1.out.ext h)
    clear h F1
    go_wp2_with fail
    refine (markOwnZ_any _ _ _ 1 _ P1.out HP3.out (by decide) (by decide)).mono ?_
    rintro e w11 ⟨rfl, HH, h⟩
    replace EX := Lib.hid (h.ext EX.out (by omega))
    replace HH := Lib.hid HH
    clear h P1
    have zg : decide ((1 : Int) + (ps.length : Int) < 0) = false := decide_eq_false (by omega)
    have zg2 : ¬ ((1 : Int) + (ps.length : Int) < 0) := by omega
    go_wp2_with fail
    refine (heldOwnZ_any _ _ 1 _ HH.out HP3.out (by decide) (by decide)).mono ?_
    rintro e w12 ⟨rfl, rfl⟩
    obtain ⟨⟨p0, p1, p2, p3, p4, p5, p6, p7, p8⟩, _⟩ := Box.nine (BB.out.ext (X.out.trans EX.out))
    go_wp2_with fail
    refine (toCourse_any _ _ _ _ _ _ (HF.out.ext (X.out.trans EX.out)) HL.out).mono ?_
    rintro e w13 ⟨B13, rfl, -, O13, h⟩
    replace EX := Lib.hid (EX.out.trans h)
    replace HH := Lib.hid (HH.out.ext h)
    replace O13 := Lib.hid O13
    clear h p0 p1 p2 p3 p4 p5 p6 p7 p8
    go_wp2_with fail
    refine (KI.out _ _ _ (O13.out.mks HM.out)).mono ?_
    rintro e w14 ⟨v2, rfl, O2, h⟩
    obtain ⟨a2, cap2, rfl, F2⟩ := O2.zxs HP2.out
    replace EX := Lib.hid (EX.out.trans h)
    replace HH := Lib.hid (HH.out.ext h)
    clear h O2 O13
    go_wp2_with fail
    refine (eqInt64S_same _ _ _ _ _ _ F2 (F0.out.ext EX.out)).mono ?_
    rintro e w15 ⟨rfl, h⟩
    replace EX := Lib.hid (EX.out.trans h)
    replace HH := Lib.hid (HH.out.ext h)
    clear h F2
    go_wp2_with fail
    refine (heldOwnZ_any _ _ 1 _ HH.out HP3.out (by decide) (by decide)).mono ?_
    rintro e w16 ⟨rfl, rfl⟩
    go_wp2
    go_ret
    exact ⟨rfl, HW.out.trans (X.out.trans EX.out)⟩

theorem own : ownKnob Try.prog.godebug = none := by kernel_rfl
theorem laidOut : laidOutB Try.prog = true := by kernel_rfl

set_option maxRecDepth 100000 in
theorem lifted (os : Os) (started : os.Started) (H : Type) (enc : TypeId × Value → H) :
    ReturnsInHanded {} Try.checked os 8 .any (Rows.fnExactLegLengthsSpec.pre6 enc Try.prog Try.f8 Rows.fnExactLegLengthsRow.domain false) (Rows.fnExactLegLengthsSpec.post enc Try.prog Try.f8 false true false false) := by
  refine returnsInHanded_of_change (C := Try.checked) own started (by kernel_rfl) Try.func8
    (ChangeSpec.witness6 (enc := enc) (C := Try.checked) false ⟨#[], #[.agg #[.int .i64 0, .int .i64 0, .int .i64 0, .int .i64 0, .int .i64 0, .int .i64 0, .int .i64 0, .int .i64 0, .slice none 0 0]], []⟩ 8 (by kernel_rfl) (by kernel_rfl) (by kernel_rfl) (by kernel_rfl)) ?_
  intro W base args ds gs before hval0 hW hcnd _
  have hval : ∀ (j : Nat) t v, Try.f8.params[j]? = some t → args[j]? = some v → Value.okWide Try.prog W .any base t v := hval0
  have hW' := hW
  obtain ⟨p, q, hA0, hV, rfl, hfz, hnd⟩ := hW
  have hA : DataW.TrodAll enc Try.prog W 0 (fun _ => true) true Try.f8.params.toList args.toList ds p := hA0
  rw [Try.params8] at hA hval
  obtain ⟨v0, vs0, d0, ds0, p0, q0, hargs, rfl, rfl, h0, r0⟩ := trodAll_cons hA
  obtain ⟨rfl, rfl, rfl⟩ := trodAll_nil r0
  obtain rfl : args = #[v0] := by cases args; simp_all
  obtain ⟨rfl, rfl⟩ := trodVars_none hV
  have k0 := h0
  have lt0 : ∀ x ∈ p0, x.block < W.heap.size := by obtain ⟨m, hm⟩ := k0; exact DataW.trod_lt m _ _ _ hm
  obtain ⟨l0, k0', a0, cap0, ms0, rfl, w0⟩ := Crs.open_course Try.underlying57 (by kernel_rfl) ⟨rfl, by kernel_rfl⟩ ⟨rfl, by kernel_rfl⟩ ⟨rfl, by kernel_rfl⟩ Try.underlying51 Try.underlying51 Try.underlying55 ⟨rfl, by kernel_rfl⟩ ⟨rfl, by kernel_rfl⟩ Try.underlying49 Try.underlying49 Try.underlying116 (by kernel_rfl) ⟨rfl, by kernel_rfl⟩ ⟨rfl, by kernel_rfl⟩ ⟨rfl, by kernel_rfl⟩ ⟨rfl, by kernel_rfl⟩ Try.underlying9 Try.underlying49 ⟨rfl, by kernel_rfl⟩ ⟨rfl, by kernel_rfl⟩ Try.underlying2 Try.underlying2 Try.underlying2 Try.underlying2 (hval 0 57 v0 rfl rfl) h0
  clear hA0 hval0
  refine (walk l0 k0' a0 cap0 ms0 W w0).mono fun e W' ⟨he, hx⟩ => ?_
  have bel := hx.below
  subst he
  exact ⟨_, rfl, _, _, _, [], _, [], hW', trodAll_mk1 (shut_bool Try.underlying4 _), (trodAll_cons_mk (Below.trod laidOut (by kernel_rfl) (of_decide_eq_true (by kernel_rfl)) k0 bel lt0) trodAll_mk0), rfl, bel.frame _, fun h => by cases h⟩

theorem proved : Rows.FnExactLegLengthsSaid :=
  OpenClaim.holds_of_wide 8 Try.f8 rfl rfl rfl rfl rfl rfl rfl ⟨rfl, rfl, rfl, rfl, rfl⟩ rfl rfl rfl rfl rfl (by kernel_rfl) Try.func8 (by kernel_rfl)
    (of_decide_eq_true (by kernel_rfl)) (by unfold Func.isWrapper; first | (rw [if_pos (by decide +kernel)]; kernel_rfl) | (rw [if_neg (by decide +kernel)]; exact ⟨rfl, rfl⟩))
    (fun os started H enc _ => lifted os started H enc)

end Go.Proofs.Ytmebaihacddhfaa.fnExactLegLengths
