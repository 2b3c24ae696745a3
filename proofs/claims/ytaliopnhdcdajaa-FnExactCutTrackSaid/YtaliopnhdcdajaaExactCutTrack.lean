/- FnExactCutTrack: for all arguments, impl.CutTrack and spec.CutTrack answer the same, the track is as it was, and the answer has a row of its own. No condition. -/
import Derived.Test.YtaliopnhdcdajaaCut3
import Derived.Test.YtaliopnhdcdajaaMko
import Derived.Test.YtaliopnhdcdajaaOpnT
import Derived.ChangeOld
import Derived.Below
import Derived.Lib.SmallJoins
namespace Go.Proofs.Ytaliopnhdcdajaa.fnExactCutTrack
open Go.ChangeShapes Go.WideShapes Go.ChangeAt Go.RowKit
open Go.Proofs.Ytaliopnhdcdajaa.Kit Go.Proofs.Ytaliopnhdcdajaa.Pts Go.Proofs.Ytaliopnhdcdajaa.Seg Go.Proofs.Ytaliopnhdcdajaa.Trk
set_option linter.unusedVariables false
set_option linter.unusedSimpArgs false

set_option maxHeartbeats 4000000 in
theorem walk (a : Option Addr) (cap : Nat) (fs : List F3) (f t : Int) (w : World) (hf : Fxs w a fs) : Calls Try.prog 6 #[Tr (.slice a fs.length cap), .int .i64 f, .int .i64 t] w fun e w' => e = .returned (.bool true) ∧ Ext w w' := by
  have HF := Lib.hid hf
  have HM := Lib.hid hf.1
  clear hf
  by_cases hl : (1048576 : Int) - fs.length < 0
  · have H := Lib.hid (szL_neg hl)
    go_enter Try.func6, Try.ntmps6
    go_wp2_with (go_at_call 9; refine (szTrack_any _ _ _ _ _ HM.out (by decide) (by decide)).mono ?_; rw [H.out]; rintro e w1 ⟨rfl, h1⟩)
    go_ret
    exact ⟨rfl, (by repeat (first | exact Ext.refl _ | assumption | apply Ext.alloc | apply Ext.drew | (refine Ext.trans ?_ (by assumption)) | (refine Ext.setNew ?_ (by simp <;> omega) _)))⟩
  · have H := Lib.hid (szL_pos hl)
    have HL := Lib.hid (show fs.length ≤ 1048576 by omega)
    have hl2 : decide ((1048576 : Int) - fs.length < 0) = false := decide_eq_false hl
    obtain ⟨gs, hgs⟩ : ∃ gs, gs = ctF fs f t := ⟨_, rfl⟩
    obtain ⟨ck, hck⟩ : ∃ ck, ck = ckI fs f t := ⟨_, rfl⟩
    have HG := Lib.hid (show gs.length ≤ 42 by rw [hgs]; exact ctF_len _ _ _)
    have KS := Lib.hid (fun (a : Option Addr) (cap : Nat) (w : World) (hf : Fxs w a fs) => cut_spec a cap fs f t w hf)
    have KI := Lib.hid (fun (a : Option Addr) (cap : Nat) (w : World) (hf : Fxs w a fs) (hc : fs.length ≤ cap) => cut_impl a cap fs f t w hf hc)
    rw [← hgs, ← hck] at KS KI
    clear hgs hck
    go_enter Try.func6, Try.ntmps6
    go_wp2_with fail
    refine (szTrack_any _ _ _ _ _ HM.out (by decide) (by decide)).mono ?_
    rw [H.out]
    rintro e w1 ⟨rfl, h1⟩
    have bt : w1.cell? ⟨w.heap.size, 0, none⟩ = some (.slice a fs.length cap) := h1.cellOf (boxed 0 rfl rfl)
    have X := Lib.hid (show Ext w w1 from (by repeat (first | exact Ext.refl _ | assumption | apply Ext.alloc | apply Ext.drew | (refine Ext.trans ?_ (by assumption)) | (refine Ext.setNew ?_ (by simp <;> omega) _))))
    clear h1
    go_wp2_with fail
    refine (toTrack_any _ _ _ _ (HF.out.ext X.out) HL.out).mono ?_
    rintro e w2 ⟨B2, rfl, -, O2, h⟩
    replace bt := h.cellOf bt
    replace X := Lib.hid (X.out.trans h)
    have PB2 := Lib.hid O2
    clear h O2
    go_wp2_with fail
    refine (KS.out _ _ _ (PB2.out.fxs HM.out)).mono ?_
    rintro e w3 ⟨v0, rfl, O0, h⟩
    obtain ⟨a0, cap0, rfl, -, F0, -⟩ := O0.fxs
    replace bt := h.cellOf bt
    replace X := Lib.hid (X.out.trans h)
    have F0 := Lib.hid (F0.ext ((Ext.refl w3).alloc (.cells #[.slice a0 gs.length cap0] 35)))
    have X4 := Lib.hid (X.out.alloc (.cells #[.slice a0 gs.length cap0] 35))
    have bt1 := one_on bt
    clear h PB2 O0
    go_wp2_with fail
    clear bt1
    refine (toTrack_any _ _ _ _ (HF.out.ext X4.out) HL.out).mono ?_
    rintro e w5 ⟨B5, rfl, l5, O5, h⟩
    have s0 : w5.cell? ⟨w3.heap.size, 0, none⟩ = some (.slice a0 gs.length cap0) := h.cellOf (boxed 0 rfl rfl)
    have EX := Lib.hid h
    have zw := World.block_lt_of_cell? w3 _ bt
    simp at zw
    replace bt := h.cellOf (one_on bt _)
    have PB5 := Lib.hid O5
    have z5 := Below.size h
    simp at z5 l5
    have n5 : 0 < fs.length → B5 < w5.heap.size := fun h0 => World.block_lt_of_cell? w5 _ (O5 0 h0).1.1
    clear h O5 X
    go_wp2_with fail
    refine (KI.out _ _ _ ((PB5.out.fxs HM.out).ext (by repeat (first | exact Ext.refl _ | assumption | apply Ext.alloc | apply Ext.drew | (refine Ext.trans ?_ (by assumption)) | (refine Ext.setNew ?_ (by simp <;> omega) _)))) (Nat.le_refl _)).mono ?_
    rintro e w7 ⟨v1, rfl, O1, h⟩
    have z7 := Below.size h
    have hx0 := ((Ext.refl w5).alloc (.cells #[.slice (some ⟨B5, 0, none⟩) fs.length fs.length] 35)).trans h
    have xt : w7.cell? ⟨w5.heap.size, 0, none⟩ = some (.slice (some ⟨B5, 0, none⟩) fs.length fs.length) := h.cellOf (boxed 0 rfl rfl)
    replace bt := hx0.cellOf bt
    replace s0 := hx0.cellOf s0
    replace EX := Lib.hid (EX.out.trans hx0)
    replace PB5 := Lib.hid (PB5.out.ext hx0)
    simp at O1 z7
    have Q1 := Lib.hid (fun (k : Nat) (hk : k < w5.heap.size + 1 ∨ w7.heap.size ≤ k) (e : v1.ownBlock = some k) => show False by have := World.ownsRow.lt O1 k e; omega)
    obtain ⟨a1, cap1, rfl, -, F1, -⟩ := O1.fxs
    have P1 := Lib.hid O1
    have s01 := one_on s0
    clear h hx0
    go_wp2_with fail
    clear s01
    refine (eqTrack_same _ _ _ _ _ _ (F1.ext (by repeat (first | exact Ext.refl _ | assumption | apply Ext.alloc | apply Ext.drew | (refine Ext.trans ?_ (by assumption)) | (refine Ext.setNew ?_ (by simp <;> omega) _)))) (F0.out.ext (EX.out.trans (by repeat (first | exact Ext.refl _ | assumption | apply Ext.alloc | apply Ext.drew | (refine Ext.trans ?_ (by assumption)) | (refine Ext.setNew ?_ (by simp <;> omega) _)))))).mono ?_
    rintro e w8 ⟨rfl, h⟩
    have g1 : w8.cell? ⟨w7.heap.size, 0, none⟩ = some (.slice a1 gs.length cap1) := h.cellOf (boxed 0 rfl rfl)
    replace h := ((Ext.refl w7).alloc (.cells #[.slice a1 gs.length cap1] 35)).trans h
    replace bt := h.cellOf bt
    replace s0 := h.cellOf s0
    replace xt := h.cellOf xt
    replace EX := Lib.hid (EX.out.trans h)
    replace PB5 := Lib.hid (PB5.out.ext h)
    replace P1 := Lib.hid (P1.out.ext h)
    clear h F1 O1
    have ebt : ∀ w', Ext w8 w' → w'.cell? ⟨w.heap.size, 0, none⟩ = some (.slice a fs.length cap) := fun w' h => h.cellOf bt
    have ext : ∀ w', Ext w8 w' → w'.cell? ⟨w5.heap.size, 0, none⟩ = some (.slice (some ⟨B5, 0, none⟩) fs.length fs.length) := fun w' h => h.cellOf xt
    go_wp2_with fail
    refine wp_region_held_drew (S := (fun w' => Ext w8 w')) (by kernel_rfl) (by (try dsimp only); first | go_keep | exact (Ext.refl _).drew | exact Res.new2.drew | exact Res.new4.drew | exact ResB.drew (by assumption) | exact ResC.drew (by assumption) | assumption | exact Ext.drew (by assumption) | exact Res.drew (by assumption)) (fun hHeld => ?_)
    (refine Ord.takeH 0 49 (v := ?_) rfl rfl (by kernel_rfl) (by kernel_rfl) (by kernel_rfl) (fun _ _ _ h => h) (by rfl) ?_ (by assumption) ?_; rotate_left; (intro w hSw; (try dsimp only at hSw); go_simp; (first | done | with_reducible rfl)); (try simp only [Act.put, List.setIfInBounds_toArray, List.set_cons_zero, List.set_cons_succ]))
    (refine Ord.takeH 1 50 (v := ?_) rfl rfl (by kernel_rfl) (by kernel_rfl) (by kernel_rfl) (fun _ _ _ h => h) (by rfl) ?_ (by assumption) ?_; rotate_left; (intro w hSw; (try dsimp only at hSw); go_simp; (first | done | with_reducible rfl)); (try simp only [Act.put, List.setIfInBounds_toArray, List.set_cons_zero, List.set_cons_succ]))
    (refine wpAnyH_ready (rs := [2]) (by kernel_rfl) (by simp) ?_; refine AllReadyH.cons rfl (fun K hK => ?_) AllReadyH.nil; go_simp; (first | (go_at_call 11; refine (toTrack_any _ _ _ _ (HF.out.ext (X4.out.trans (EX.out.trans (by first | assumption | exact (Ext.refl _).drew)))) HL.out).mono ?_; rintro e w9 ⟨B9, rfl, -, O9, hy⟩) | (go_at_call 15; refine (eqTrack_same _ _ _ _ _ _ ((PB5.out.ext (by assumption)).fxs HM.out) (O9.fxs HM.out)).mono ?_; rintro e w10 ⟨rfl, hy⟩)); go_wp2_with fail; (refine hK.out _ _ (by first | assumption | exact Ext.trans (by assumption) hy | exact Res.ext (by assumption) hy | exact ResB.ext (by assumption) hy | exact ResC.ext (by assumption) hy | (go_split_ands; (repeat' apply And.intro) <;> exact Ext.cellOf hy (by assumption))) (fun hHeld => ?_)); clear hK K; (try simp only [Act.put, List.setIfInBounds_toArray, List.set_cons_zero, List.set_cons_succ]))
    (refine wpAnyH_ready (rs := [3]) (by kernel_rfl) (by simp) ?_; refine AllReadyH.cons rfl (fun K hK => ?_) AllReadyH.nil; go_simp; (first | (go_at_call 11; refine (toTrack_any _ _ _ _ (HF.out.ext (X4.out.trans (EX.out.trans (by first | assumption | exact (Ext.refl _).drew)))) HL.out).mono ?_; rintro e w9 ⟨B9, rfl, -, O9, hy⟩) | (go_at_call 15; refine (eqTrack_same _ _ _ _ _ _ ((PB5.out.ext (by assumption)).fxs HM.out) (O9.fxs HM.out)).mono ?_; rintro e w10 ⟨rfl, hy⟩)); go_wp2_with fail; (refine hK.out _ _ (by first | assumption | exact Ext.trans (by assumption) hy | exact Res.ext (by assumption) hy | exact ResB.ext (by assumption) hy | exact ResC.ext (by assumption) hy | (go_split_ands; (repeat' apply And.intro) <;> exact Ext.cellOf hy (by assumption))) (fun hHeld => ?_)); clear hK K; (try simp only [Act.put, List.setIfInBounds_toArray, List.set_cons_zero, List.set_cons_succ]))
    (refine Ord.takeH 4 53 (v := ?_) rfl rfl (by kernel_rfl) (by kernel_rfl) (by kernel_rfl) (fun _ _ _ h => h) (by rfl) ?_ (by assumption) ?_; rotate_left; (intro w hSw; (try dsimp only at hSw); go_simp; (first | done | with_reducible rfl)); (try simp only [Act.put, List.setIfInBounds_toArray, List.set_cons_zero, List.set_cons_succ]))
    refine wpAnyH_done (by kernel_rfl) ?_ _
    have h : Ext w8 w10 := hHeld
    clear hHeld ebt ext
    replace bt := h.cellOf bt
    replace s0 := h.cellOf s0
    replace xt := h.cellOf xt
    replace g1 := h.cellOf g1
    replace EX := Lib.hid (EX.out.trans h)
    replace PB5 := Lib.hid (PB5.out.ext h)
    replace P1 := Lib.hid (P1.out.ext h)
    clear h
    have zn : decide ((1 : Int) + 3 * (fs.length : Int) < 0) = false := decide_eq_false (by omega)
    go_wp2_with fail
    refine (markNew_any B5 _ w5.heap.size _ _ _ PB5.out HL.out (by decide) (by decide)).mono ?_
    rintro e w13 ⟨rfl, C, hC, h⟩
    have c1 : w3.heap.size + 1 ≤ C := by rcases hC with ⟨_, rfl⟩ | rfl <;> omega
    have c2 : C ≤ w5.heap.size := by
      rcases hC with ⟨h0, rfl⟩ | rfl
      · have := n5 h0; omega
      · omega
    clear hC
    replace bt := h.cellOf (by simp; omega) bt
    replace s0 := h.cellOf (by simp; omega) s0
    replace g1 := h.cellOf (by simp; omega) g1
    replace EX := Lib.hid (h.ext EX.out (by simp; omega))
    replace P1 := Lib.hid (P1.out.chg h (P1.out.block (by omega)))
    clear h PB5 xt
    obtain ⟨_, _, e1, -, F1, -⟩ := P1.out.fxs
    cases e1
    go_wp2_with fail
    refine (eqTrack_same _ _ _ _ _ _ F1 (F0.out.ext EX.out)).mono ?_
    rintro e w14 ⟨rfl, h⟩
    replace bt := h.cellOf bt
    replace s0 := h.cellOf s0
    replace g1 := h.cellOf g1
    replace EX := Lib.hid (EX.out.trans h)
    replace P1 := Lib.hid (P1.out.ext h)
    clear h F1
    go_wp2_with fail
    refine (markOwn_any _ _ _ _ _ P1.out (by have := HG.out; omega) (by decide) (by decide)).mono ?_
    rintro e w17 ⟨rfl, HH, h⟩
    replace bt := h.cellOf (fun e => Q1.out _ (.inl (by simp; omega)) e) bt
    replace s0 := h.cellOf (fun e => Q1.out _ (.inl (by simp; omega)) e) s0
    replace g1 := h.cellOf (fun e => Q1.out _ (.inr (by simp)) e) g1
    replace EX := Lib.hid (h.ext EX.out (by simp; omega))
    replace HH := Lib.hid HH
    clear h P1
    have zg : decide ((1 : Int) + 3 * (gs.length : Int) < 0) = false := decide_eq_false (by omega)
    have HG2 := Lib.hid (show gs.length ≤ 1048576 by have := HG.out; omega)
    go_wp2_with fail
    refine (heldOwn_any _ _ _ _ HH.out HG2.out (by decide) (by decide)).mono ?_
    rintro e w19 ⟨rfl, h⟩
    replace bt := h.cellOf bt
    replace s0 := h.cellOf s0
    replace g1 := h.cellOf g1
    replace EX := Lib.hid (EX.out.trans h)
    replace HH := Lib.hid (HH.out.ext h)
    clear h
    go_wp2_with fail
    refine (toTrack_any _ _ _ _ (HF.out.ext (X4.out.trans EX.out)) HL.out).mono ?_
    rintro e w23 ⟨B23, rfl, -, O23, h⟩
    replace s0 := h.cellOf s0
    replace g1 := h.cellOf g1
    replace EX := Lib.hid (EX.out.trans h)
    replace HH := Lib.hid (HH.out.ext h)
    replace O23 := Lib.hid O23
    clear h bt
    go_wp2_with fail
    refine (KI.out _ _ _ (O23.out.fxs HM.out) (Nat.le_refl _)).mono ?_
    rintro e w24 ⟨v2, rfl, O2, h⟩
    obtain ⟨a2, cap2, rfl, -, F2, -⟩ := O2.fxs
    replace s0 := h.cellOf s0
    replace g1 := h.cellOf g1
    replace EX := Lib.hid (EX.out.trans h)
    replace HH := Lib.hid (HH.out.ext h)
    have s01 := one_on s0
    clear h O23 O2
    go_wp2_with fail
    clear s01
    refine (eqTrack_same _ _ _ _ _ _ (F2.ext (by repeat (first | exact Ext.refl _ | assumption | apply Ext.alloc | apply Ext.drew | (refine Ext.trans ?_ (by assumption)) | (refine Ext.setNew ?_ (by simp <;> omega) _)))) (F0.out.ext (EX.out.trans (by repeat (first | exact Ext.refl _ | assumption | apply Ext.alloc | apply Ext.drew | (refine Ext.trans ?_ (by assumption)) | (refine Ext.setNew ?_ (by simp <;> omega) _)))))).mono ?_
    rintro e w25 ⟨rfl, h⟩
    replace h := ((Ext.refl w24).alloc (.cells #[.slice a2 gs.length cap2] 35)).trans h
    replace g1 := h.cellOf g1
    replace EX := Lib.hid (EX.out.trans h)
    replace HH := Lib.hid (HH.out.ext h)
    clear h s0 F2
    go_wp2_with fail
    refine (heldOwn_any _ _ _ _ HH.out HG2.out (by decide) (by decide)).mono ?_
    rintro e w28 ⟨rfl, h⟩
    go_wp2
    go_ret
    exact ⟨rfl, X4.out.trans (EX.out.trans h)⟩

theorem own : ownKnob Try.prog.godebug = none := by kernel_rfl
theorem laidOut : laidOutB Try.prog = true := by kernel_rfl

set_option maxRecDepth 100000 in
set_option maxHeartbeats 1000000 in
theorem lifted (os : Os) (started : os.Started) (H : Type) (enc : TypeId × Value → H) :
    ReturnsInHanded {} Try.checked os 6 .any (Rows.fnExactCutTrackSpec.pre6 enc Try.prog Try.f6 Rows.fnExactCutTrackRow.domain false) (Rows.fnExactCutTrackSpec.post enc Try.prog Try.f6 false true false false) := by
  refine returnsInHanded_of_change (C := Try.checked) own started (by kernel_rfl) Try.func6
    (ChangeSpec.witness6 (enc := enc) (C := Try.checked) false ⟨#[], #[.agg #[.slice none 0 0], .int .i64 0, .int .i64 0], []⟩ 8 (by kernel_rfl) (by kernel_rfl) (by kernel_rfl) (by kernel_rfl)) ?_
  intro W base args ds gs before hval0 hW hcnd _
  have hval : ∀ (j : Nat) t v, Try.f6.params[j]? = some t → args[j]? = some v → Value.okWide Try.prog W .any base t v := hval0
  have hW' := hW
  obtain ⟨p, q, hA0, hV, rfl, hfz, hnd⟩ := hW
  have hA : DataW.TrodAll enc Try.prog W 0 (fun _ => true) true Try.f6.params.toList args.toList ds p := hA0
  rw [Try.params6] at hA hval
  obtain ⟨v0, vs0, d0, ds0, p0, q0, hargs, rfl, rfl, h0, r0⟩ := trodAll_cons hA
  obtain ⟨v1, vs1, d1, ds1, p1, q1, rfl, rfl, rfl, h1, r1⟩ := trodAll_cons r0
  obtain ⟨v2, vs2, d2, ds2, p2, q2, rfl, rfl, rfl, h2, r2⟩ := trodAll_cons r1
  obtain ⟨rfl, rfl, rfl⟩ := trodAll_nil r2
  obtain rfl : args = #[v0, v1, v2] := by cases args; simp_all
  obtain ⟨rfl, rfl⟩ := trodVars_none hV
  have k0 := h0
  have lt0 : ∀ x ∈ p0, x.block < W.heap.size := by obtain ⟨m, hm⟩ := k0; exact DataW.trod_lt m _ _ _ hm
  obtain ⟨a0, cap0, fs0, rfl, w0⟩ := Trk.open_track Try.underlying24 (by kernel_rfl) (by kernel_rfl) Try.underlying22 Try.underlying117 (by kernel_rfl) (by kernel_rfl) Try.underlying2 Try.underlying2 Try.underlying2 (hval 0 24 v0 rfl rfl) h0
  have k1 := h1
  have lt1 : ∀ x ∈ p1, x.block < W.heap.size := by obtain ⟨m, hm⟩ := k1; exact DataW.trod_lt m _ _ _ hm
  obtain ⟨a1, rfl, _, _, w1⟩ := open_int Try.underlying2 (hval 1 2 v1 rfl rfl) h1
  have k2 := h2
  have lt2 : ∀ x ∈ p2, x.block < W.heap.size := by obtain ⟨m, hm⟩ := k2; exact DataW.trod_lt m _ _ _ hm
  obtain ⟨a2, rfl, _, _, w2⟩ := open_int Try.underlying2 (hval 2 2 v2 rfl rfl) h2
  clear hA0 hval0
  refine (walk a0 cap0 fs0 a1 a2 W w0).mono fun e W' ⟨he, hx⟩ => ?_
  have bel := hx.below
  subst he
  exact ⟨_, rfl, _, _, _, [], _, [], hW', trodAll_mk1 (shut_bool Try.underlying4 _), (trodAll_cons_mk (Below.trod laidOut (by kernel_rfl) (of_decide_eq_true (by kernel_rfl)) k0 bel lt0) (trodAll_cons_mk (Below.trod laidOut (by kernel_rfl) (of_decide_eq_true (by kernel_rfl)) k1 bel lt1) (trodAll_cons_mk (Below.trod laidOut (by kernel_rfl) (of_decide_eq_true (by kernel_rfl)) k2 bel lt2) trodAll_mk0))), rfl, bel.frame _, fun h => by cases h⟩

theorem proved : Rows.FnExactCutTrackSaid :=
  OpenClaim.holds_of_wide 6 Try.f6 rfl rfl rfl rfl rfl rfl rfl ⟨rfl, rfl, rfl, rfl, rfl⟩ rfl rfl rfl rfl rfl (by kernel_rfl) Try.func6 (by kernel_rfl)
    (of_decide_eq_true (by kernel_rfl)) (by unfold Func.isWrapper; first | (rw [if_pos (by decide +kernel)]; kernel_rfl) | (rw [if_neg (by decide +kernel)]; exact ⟨rfl, rfl⟩))
    (fun os started H enc _ => lifted os started H enc)

end Go.Proofs.Ytaliopnhdcdajaa.fnExactCutTrack
