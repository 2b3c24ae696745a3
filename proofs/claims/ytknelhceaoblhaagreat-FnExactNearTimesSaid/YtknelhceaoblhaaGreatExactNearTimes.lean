import Derived.Test.YtknelhceaoblhaaGreatNrt2
import Derived.Test.YtknelhceaoblhaaGreatMMnv
import Derived.Test.YtknelhceaoblhaaGreatMRow
import Derived.ChangeOld
import Derived.Below
import Derived.Deep.DeepCutAuto
import Derived.Lib.SmallJoins
namespace Go.Proofs.YtknelhceaoblhaaGreat.fnExactNearTimes
open Go.ChangeShapes Go.WideShapes Go.ChangeAt Go.RowKit Go.PlainAid
open Go.Proofs.YtknelhceaoblhaaGreat.Num Go.Proofs.YtknelhceaoblhaaGreat.Kit Go.Proofs.YtknelhceaoblhaaGreat.Pts Go.Proofs.YtknelhceaoblhaaGreat.Rwz Go.Proofs.YtknelhceaoblhaaGreat.Wch Go.Proofs.YtknelhceaoblhaaGreat.Nrt
open Go.Proofs.YtknelhceaoblhaaGreat.Trk (F3 Fxs Tr szL szL_neg szL_pos szTrack_any toTrack_any eqTrack_same markTrack_any markTrack_zero)
set_option linter.unusedVariables false
set_option linter.unusedSimpArgs false
theorem markTrackD (B cap b : Nat) (fs : List F3) (q : Int) (w : World) (h : Trk.Own w B fs) (hn : fs.length ≤ 1048576) (k0 : 0 ≤ q) (k1 : q ≤ 10000000) :
    Calls Tryz.prog 21 #[Tr (.slice (some ⟨B, 0, none⟩) fs.length cap), .int .i64 q] w fun e w' => e = .returned (.int .i64 (q + 3 * fs.length)) ∧ ∃ C, ((0 < fs.length ∧ C = B) ∨ C = b) ∧ Chg C w w' := by
  rcases Nat.eq_zero_or_pos fs.length with h0 | h0
  · rw [h0]
    exact (Trk.markTrack_zero _ _ q w).mono fun e w' ⟨he, hx⟩ => ⟨by simpa using he, b, .inr rfl, Chg.of_ext hx⟩
  · exact (Trk.markTrack_any B cap _ q w h.room hn k0 k1).mono fun e w' ⟨he, _, _, hc⟩ => ⟨he, B, .inl ⟨h0, rfl⟩, hc⟩
set_option maxRecDepth 100000 in
set_option maxHeartbeats 8000000 in
theorem walk (l s d p : Int) (a : Option Addr) (cap : Nat) (fs : List F3) (b : Option Addr) (cb : Nat) (gs : List F3) (w : World) (hf1 : Fxs w a fs) (hg1 : Fxs w b gs) :
    Calls Tryz.prog 4 #[Wt l s d p, Tr (.slice a fs.length cap), Tr (.slice b gs.length cb)] w fun e w' => e = .returned (.bool true) ∧ Ext w w' := by
  have HM1 := Lib.hid hf1.1
  have HM2 := Lib.hid hg1.1
  have KS := Lib.hid (fun (hl1 : fs.length ≤ 1048576) (hl2 : gs.length ≤ 1048576) (a b : Option Addr) (w : World) (hf : Fxs w a fs) (hg : Fxs w b gs) => nearTimes_spec l s d p a b fs.length gs.length fs gs w hf hg (Nat.le_refl _) (Nat.le_refl _))
  have KI := Lib.hid (fun (hl1 : fs.length ≤ 1048576) (hl2 : gs.length ≤ 1048576) (a b : Option Addr) (w : World) (hf : Fxs w a fs) (hg : Fxs w b gs) => nearTimes_impl l s d p a b fs.length gs.length fs gs w hf hg (Nat.le_refl _) (Nat.le_refl _))
  obtain ⟨ck, hck⟩ : ∃ ck, ck = ntC l s d p fs gs := ⟨_, rfl⟩
  obtain ⟨zs, hzs⟩ : ∃ zs, zs = ntZ l s d p fs gs := ⟨_, rfl⟩
  have HP := Lib.hid (nt_len l s d p fs gs)
  rw [← hzs] at HP
  rw [← hck, ← hzs] at KS KI
  clear hck hzs
  have HP2 := Lib.hid (show zs.length ≤ maxLen by unfold maxLen; have := HP.out; omega)
  have HP3 := Lib.hid (show zs.length ≤ 1000 by have := HP.out; omega)
  obtain ⟨W0, hW0⟩ : ∃ W0, W0 = ((w.alloc (.cells #[.int .i64 l, .int .i64 s, .int .i64 d, .int .i64 p] 43)).alloc (.cells #[.slice a fs.length cap] 46)).alloc (.cells #[.slice b gs.length cb] 46) := ⟨_, rfl⟩
  have hX : Ext w W0 := hW0 ▸ ((((Ext.refl w).alloc _).alloc _).alloc _)
  have hs0 : W0.heap.size = w.heap.size + 1 + 1 + 1 := by rw [hW0]; simp
  have e00 : ∀ w', (Ext W0) w' → w'.cell? ⟨w.heap.size, 0, none⟩ = some (.int .i64 l) := fun w' h => h.cellOf (by rw [hW0]; exact (((Ext.refl _).alloc _).alloc _).cellOf (boxed 0 rfl (by simp)))
  have e01 : ∀ w', (Ext W0) w' → w'.cell? ⟨w.heap.size, 1, none⟩ = some (.int .i64 s) := fun w' h => h.cellOf (by rw [hW0]; exact (((Ext.refl _).alloc _).alloc _).cellOf (boxed 1 rfl (by simp)))
  have e02 : ∀ w', (Ext W0) w' → w'.cell? ⟨w.heap.size, 2, none⟩ = some (.int .i64 d) := fun w' h => h.cellOf (by rw [hW0]; exact (((Ext.refl _).alloc _).alloc _).cellOf (boxed 2 rfl (by simp)))
  have e03 : ∀ w', (Ext W0) w' → w'.cell? ⟨w.heap.size, 3, none⟩ = some (.int .i64 p) := fun w' h => h.cellOf (by rw [hW0]; exact (((Ext.refl _).alloc _).alloc _).cellOf (boxed 3 rfl (by simp)))
  have e10 : ∀ w', (Ext W0) w' → w'.cell? ⟨w.heap.size + 1, 0, none⟩ = some (.slice a fs.length cap) := fun w' h => h.cellOf (by rw [hW0]; exact ((Ext.refl _).alloc _).cellOf (boxed 0 rfl (by simp)))
  have e20 : ∀ w', (Ext W0) w' → w'.cell? ⟨w.heap.size + 1 + 1, 0, none⟩ = some (.slice b gs.length cb) := fun w' h => h.cellOf (by rw [hW0]; exact boxed 0 rfl (by simp))
  have HF := Lib.hid (hf1.ext hX)
  have HG := Lib.hid (hg1.ext hX)
  clear hf1 hg1
  go_enter Tryz.func4, Tryz.ntmps4
  go_wp2_with fail
  rw [← hW0]
  clear hW0
  refine (szTrack_any _ _ _ _ _ HM1.out (by omega) (by omega)).mono ?_
  rintro e z1 ⟨rfl, hz⟩
  replace hz : Ext W0 z1 := hz
  by_cases hl1 : (1048576 : Int) - fs.length < 0
  · rw [szL_neg hl1]
    go_wp2
    go_ret
    exact ⟨rfl, hX.trans hz⟩
  have hl1b : decide ((1048576 : Int) - fs.length < 0) = false := decide_eq_false hl1
  rw [szL_pos hl1]
  have q20 := e20 z1 hz
  go_wp2_with fail
  refine (szTrack_any _ _ _ _ _ HM2.out (by omega) (by omega)).mono ?_
  rintro e z2 ⟨rfl, hy⟩
  have X2 := Lib.hid (hz.trans hy)
  clear hz hy q20
  by_cases hl2 : (1048576 : Int) - fs.length - gs.length < 0
  · rw [szL_neg hl2]
    go_wp2
    go_ret
    exact ⟨rfl, hX.trans X2.out⟩
  have hl2b : decide ((1048576 : Int) - fs.length - gs.length < 0) = false := decide_eq_false hl2
  have HL1 := Lib.hid (show fs.length ≤ 1048576 by omega)
  have HL2 := Lib.hid (show gs.length ≤ 1048576 by omega)
  rw [szL_pos hl2]
  have TT1 := Lib.hid (fun w' (h : Ext W0 w') => toTrack_any a cap fs w' (HF.out.ext h) HL1.out)
  have TT2 := Lib.hid (fun w' (h : Ext W0 w') => toTrack_any b cb gs w' (HG.out.ext h) HL2.out)
  have ye00 : ∀ w', Ext z2 w' → w'.cell? ⟨w.heap.size, 0, none⟩ = some (.int .i64 l) := fun w' h => e00 w' (X2.out.trans h)
  have ye01 : ∀ w', Ext z2 w' → w'.cell? ⟨w.heap.size, 1, none⟩ = some (.int .i64 s) := fun w' h => e01 w' (X2.out.trans h)
  have ye02 : ∀ w', Ext z2 w' → w'.cell? ⟨w.heap.size, 2, none⟩ = some (.int .i64 d) := fun w' h => e02 w' (X2.out.trans h)
  have ye03 : ∀ w', Ext z2 w' → w'.cell? ⟨w.heap.size, 3, none⟩ = some (.int .i64 p) := fun w' h => e03 w' (X2.out.trans h)
  have ye10 : ∀ w', Ext z2 w' → w'.cell? ⟨w.heap.size + 1, 0, none⟩ = some (.slice a fs.length cap) := fun w' h => e10 w' (X2.out.trans h)
  have ye20 : ∀ w', Ext z2 w' → w'.cell? ⟨w.heap.size + 1 + 1, 0, none⟩ = some (.slice b gs.length cb) := fun w' h => e20 w' (X2.out.trans h)
  have hr := Ext.refl z2
  go_upto_region 8 with fail
  refine wp_region_held_drew (S := (fun w' => Ext z2 w')) (by kernel_rfl) (by (try dsimp only); first | go_keep | exact (Ext.refl _).drew | exact Res.new2.drew | exact Res.new4.drew | exact ResB.drew (by assumption) | exact ResC.drew (by assumption) | assumption | exact Ext.drew (by assumption) | exact Res.drew (by assumption)) (fun hHeld => ?_)
  refine Ord.K 0 30 ?_
  refine Ord.K 2 32 ?_
  refine Ord.K 4 34 ?_
  (refine wpAnyH_ready (rs := [1]) (by kernel_rfl) (by simp) ?_; refine AllReadyH.cons rfl (fun K hK => ?_) AllReadyH.nil; go_simp; (first | (go_at_call 17; refine (toWatch_any _ _ _ _ _).mono ?_; rintro e w3 ⟨rfl, hy⟩) | (go_at_call 18; refine (TT1.out _ (X2.out.trans (by first | assumption | exact (Ext.refl _).drew))).mono ?_; rintro e w4 ⟨B4, rfl, -, O4, hy⟩) | (go_at_call 18; refine (TT2.out _ (X2.out.trans (by first | assumption | exact (Ext.refl _).drew))).mono ?_; rintro e w5 ⟨B5, rfl, -, O5, hy⟩; (replace O4 := O4.ext hy)) | (go_at_call 16; refine (KS.out HL1.out HL2.out _ _ _ (O4.fxs HM1.out) (O5.fxs HM2.out)).mono ?_; rintro e w6 ⟨v0, rfl, O0, hy⟩)); go_wp2_with fail; (refine hK.out _ _ (by first | assumption | exact Ext.trans (by assumption) hy | exact Res.ext (by assumption) hy | exact ResB.ext (by assumption) hy | exact ResC.ext (by assumption) hy | (go_split_ands; (repeat' apply And.intro) <;> exact Ext.cellOf hy (by assumption))) (fun hHeld => ?_)); clear hK K; (try simp only [Act.put, Ord.a, Ord.b, Ord.c]))
  (refine wpAnyH_ready (rs := [3]) (by kernel_rfl) (by simp) ?_; refine AllReadyH.cons rfl (fun K hK => ?_) AllReadyH.nil; go_simp; (first | (go_at_call 17; refine (toWatch_any _ _ _ _ _).mono ?_; rintro e w3 ⟨rfl, hy⟩) | (go_at_call 18; refine (TT1.out _ (X2.out.trans (by first | assumption | exact (Ext.refl _).drew))).mono ?_; rintro e w4 ⟨B4, rfl, -, O4, hy⟩) | (go_at_call 18; refine (TT2.out _ (X2.out.trans (by first | assumption | exact (Ext.refl _).drew))).mono ?_; rintro e w5 ⟨B5, rfl, -, O5, hy⟩; (replace O4 := O4.ext hy)) | (go_at_call 16; refine (KS.out HL1.out HL2.out _ _ _ (O4.fxs HM1.out) (O5.fxs HM2.out)).mono ?_; rintro e w6 ⟨v0, rfl, O0, hy⟩)); go_wp2_with fail; (refine hK.out _ _ (by first | assumption | exact Ext.trans (by assumption) hy | exact Res.ext (by assumption) hy | exact ResB.ext (by assumption) hy | exact ResC.ext (by assumption) hy | (go_split_ands; (repeat' apply And.intro) <;> exact Ext.cellOf hy (by assumption))) (fun hHeld => ?_)); clear hK K; (try simp only [Act.put, Ord.a, Ord.b, Ord.c]))
  (refine wpAnyH_ready (rs := [5]) (by kernel_rfl) (by simp) ?_; refine AllReadyH.cons rfl (fun K hK => ?_) AllReadyH.nil; go_simp; (first | (go_at_call 17; refine (toWatch_any _ _ _ _ _).mono ?_; rintro e w3 ⟨rfl, hy⟩) | (go_at_call 18; refine (TT1.out _ (X2.out.trans (by first | assumption | exact (Ext.refl _).drew))).mono ?_; rintro e w4 ⟨B4, rfl, -, O4, hy⟩) | (go_at_call 18; refine (TT2.out _ (X2.out.trans (by first | assumption | exact (Ext.refl _).drew))).mono ?_; rintro e w5 ⟨B5, rfl, -, O5, hy⟩; (replace O4 := O4.ext hy)) | (go_at_call 16; refine (KS.out HL1.out HL2.out _ _ _ (O4.fxs HM1.out) (O5.fxs HM2.out)).mono ?_; rintro e w6 ⟨v0, rfl, O0, hy⟩)); go_wp2_with fail; (refine hK.out _ _ (by first | assumption | exact Ext.trans (by assumption) hy | exact Res.ext (by assumption) hy | exact ResB.ext (by assumption) hy | exact ResC.ext (by assumption) hy | (go_split_ands; (repeat' apply And.intro) <;> exact Ext.cellOf hy (by assumption))) (fun hHeld => ?_)); clear hK K; (try simp only [Act.put, Ord.a, Ord.b, Ord.c]))
  (refine wpAnyH_ready (rs := [6]) (by kernel_rfl) (by simp) ?_; refine AllReadyH.cons rfl (fun K hK => ?_) AllReadyH.nil; go_simp; (first | (go_at_call 17; refine (toWatch_any _ _ _ _ _).mono ?_; rintro e w3 ⟨rfl, hy⟩) | (go_at_call 18; refine (TT1.out _ (X2.out.trans (by first | assumption | exact (Ext.refl _).drew))).mono ?_; rintro e w4 ⟨B4, rfl, -, O4, hy⟩) | (go_at_call 18; refine (TT2.out _ (X2.out.trans (by first | assumption | exact (Ext.refl _).drew))).mono ?_; rintro e w5 ⟨B5, rfl, -, O5, hy⟩; (replace O4 := O4.ext hy)) | (go_at_call 16; refine (KS.out HL1.out HL2.out _ _ _ (O4.fxs HM1.out) (O5.fxs HM2.out)).mono ?_; rintro e w6 ⟨v0, rfl, O0, hy⟩)); go_wp2_with fail; (refine hK.out _ _ (by first | assumption | exact Ext.trans (by assumption) hy | exact Res.ext (by assumption) hy | exact ResB.ext (by assumption) hy | exact ResC.ext (by assumption) hy | (go_split_ands; (repeat' apply And.intro) <;> exact Ext.cellOf hy (by assumption))) (fun hHeld => ?_)); clear hK K; (try simp only [Act.put, Ord.a, Ord.b, Ord.c]))
  refine Ord.K 7 29 ?_
  refine Ord.K 8 37 ?_
  refine Ord.K 9 38 ?_
  refine Ord.K 10 8 ?_
  refine Ord.K 11 9 ?_
  refine wpAnyH_done (by kernel_rfl) ?_ _
  have X := Lib.hid (show Ext W0 w6 from X2.out.trans hHeld)
  obtain ⟨a0, cap0, rfl, F0⟩ := O0.zxs HP2.out
  replace F0 := Lib.hid F0
  clear hHeld hy O4 O5 O0 hr X2 ye00 ye01 ye02 ye03 ye10 ye20
  have c1 := e10 w6 X.out
  go_wp2_with fail
  refine (TT1.out _ X.out).mono ?_
  rintro e w7 ⟨B7, rfl, l7, O7, h⟩
  have n7 : 0 < fs.length → B7 < w7.heap.size := fun h0 => World.block_lt_of_cell? w7 _ (O7 0 h0).1.1
  have EX := Lib.hid h
  have z7 := Ext.size h
  have P7 := Lib.hid O7
  clear h O7 c1
  have c2 : ∀ A, (w7.alloc A).cell? ⟨w.heap.size + 1 + 1, 0, none⟩ = some (.slice b gs.length cb) := fun A => e20 _ ((X.out.trans EX.out).alloc A)
  go_wp2_with fail
  refine (TT2.out _ ((X.out.trans EX.out).alloc _)).mono ?_
  rintro e w8 ⟨B8, rfl, l8, O8, h⟩
  have n8 : 0 < gs.length → B8 < w8.heap.size := fun h0 => World.block_lt_of_cell? w8 _ (O8 0 h0).1.1
  replace l8 : w7.heap.size + 1 ≤ B8 := by simpa using l8
  have BT := Lib.hid ((Box.new (w := w7) (vs := [.slice (some ⟨B7, 0, none⟩) fs.length fs.length]) (t := 30) rfl).ext h)
  have z8 := Ext.size h
  simp at z8
  replace h := ((Ext.refl w7).alloc (.cells #[.slice (some ⟨B7, 0, none⟩) fs.length fs.length] 30)).trans h
  replace P7 := Lib.hid (P7.out.ext h)
  replace EX := Lib.hid (EX.out.trans h)
  have P8 := Lib.hid O8
  clear h O8 c2
  obtain ⟨V9, hV9⟩ : ∃ V9, V9 = w8.alloc (.cells #[.slice (some ⟨B8, 0, none⟩) gs.length gs.length] 30) := ⟨_, rfl⟩
  have h : Ext w8 V9 := hV9 ▸ (Ext.refl _).alloc _
  have BU := Lib.hid (show Box V9 w8.heap.size [.slice (some ⟨B8, 0, none⟩) gs.length gs.length] from hV9 ▸ Box.new rfl)
  have z9 : w8.heap.size + 1 ≤ V9.heap.size := by rw [hV9]; simp
  replace P7 := Lib.hid (P7.out.ext h)
  replace P8 := Lib.hid (P8.out.ext h)
  replace BT := Lib.hid (BT.out.ext h)
  replace EX := Lib.hid (EX.out.trans h)
  go_upto_region 11 with fail
  rw [← hV9]
  clear hV9 h
  obtain ⟨bt, hbt⟩ : ∃ bt, bt = w7.heap.size := ⟨_, rfl⟩
  obtain ⟨bu, hbu⟩ : ∃ bu, bu = w8.heap.size := ⟨_, rfl⟩
  rw [← hbt] at BT n7 z7 z8 l8 ⊢
  rw [← hbu] at BU n8 z8 z9 ⊢
  clear hbt hbu
  have ye00 : ∀ w', Ext V9 w' → w'.cell? ⟨w.heap.size, 0, none⟩ = some (.int .i64 l) := fun w' h => e00 w' ((X.out.trans EX.out).trans h)
  have ye01 : ∀ w', Ext V9 w' → w'.cell? ⟨w.heap.size, 1, none⟩ = some (.int .i64 s) := fun w' h => e01 w' ((X.out.trans EX.out).trans h)
  have ye02 : ∀ w', Ext V9 w' → w'.cell? ⟨w.heap.size, 2, none⟩ = some (.int .i64 d) := fun w' h => e02 w' ((X.out.trans EX.out).trans h)
  have ye03 : ∀ w', Ext V9 w' → w'.cell? ⟨w.heap.size, 3, none⟩ = some (.int .i64 p) := fun w' h => e03 w' ((X.out.trans EX.out).trans h)
  have ye10 : ∀ w', Ext V9 w' → w'.cell? ⟨w.heap.size + 1, 0, none⟩ = some (.slice a fs.length cap) := fun w' h => e10 w' ((X.out.trans EX.out).trans h)
  have ye20 : ∀ w', Ext V9 w' → w'.cell? ⟨w.heap.size + 1 + 1, 0, none⟩ = some (.slice b gs.length cb) := fun w' h => e20 w' ((X.out.trans EX.out).trans h)
  have g1 : ∀ w', Ext V9 w' → w'.cell? ⟨bt, 0, none⟩ = some (.slice (some ⟨B7, 0, none⟩) fs.length fs.length) := fun w' h => h.cellOf (BT.out 0 _ rfl).1
  have g2 : ∀ w', Ext V9 w' → w'.cell? ⟨bu, 0, none⟩ = some (.slice (some ⟨B8, 0, none⟩) gs.length gs.length) := fun w' h => h.cellOf (BU.out 0 _ rfl).1
  have hr := Ext.refl V9
  refine wp_region_held_drew (S := (fun w' => Ext V9 w')) (by kernel_rfl) (by (try dsimp only); first | go_keep | exact (Ext.refl _).drew | exact Res.new2.drew | exact Res.new4.drew | exact ResB.drew (by assumption) | exact ResC.drew (by assumption) | assumption | exact Ext.drew (by assumption) | exact Res.drew (by assumption)) (fun hHeld => ?_)
  refine Ord.K 0 44 ?_
  refine Ord.K 2 46 ?_
  refine Ord.K 3 47 ?_
  (refine wpAnyH_ready (rs := [1]) (by kernel_rfl) (by simp) ?_; refine AllReadyH.cons rfl (fun K hK => ?_) AllReadyH.nil; go_simp; (first | (go_at_call 17; refine (toWatch_any _ _ _ _ _).mono ?_; rintro e wb ⟨rfl, hy⟩) | (go_at_call 12; refine (KI.out HL1.out HL2.out _ _ _ ((P7.out.ext (by assumption)).fxs HM1.out) ((P8.out.ext (by assumption)).fxs HM2.out)).mono ?_; rintro e w9 ⟨v1, rfl, O1, hy⟩; (replace O1 := OwnZ.mono O1 (Ext.size (show Ext V9 _ from hHeld))))); go_wp2_with fail; (refine hK.out _ _ (by first | assumption | exact Ext.trans (by assumption) hy | exact Res.ext (by assumption) hy | exact ResB.ext (by assumption) hy | exact ResC.ext (by assumption) hy | (go_split_ands; (repeat' apply And.intro) <;> exact Ext.cellOf hy (by assumption))) (fun hHeld => ?_)); clear hK K; (try simp only [Act.put, Ord.a, Ord.b, Ord.c]))
  (refine wpAnyH_ready (rs := [4]) (by kernel_rfl) (by simp) ?_; refine AllReadyH.cons rfl (fun K hK => ?_) AllReadyH.nil; go_simp; (first | (go_at_call 17; refine (toWatch_any _ _ _ _ _).mono ?_; rintro e wb ⟨rfl, hy⟩) | (go_at_call 12; refine (KI.out HL1.out HL2.out _ _ _ ((P7.out.ext (by assumption)).fxs HM1.out) ((P8.out.ext (by assumption)).fxs HM2.out)).mono ?_; rintro e w9 ⟨v1, rfl, O1, hy⟩; (replace O1 := OwnZ.mono O1 (Ext.size (show Ext V9 _ from hHeld))))); go_wp2_with fail; (refine hK.out _ _ (by first | assumption | exact Ext.trans (by assumption) hy | exact Res.ext (by assumption) hy | exact ResB.ext (by assumption) hy | exact ResC.ext (by assumption) hy | (go_split_ands; (repeat' apply And.intro) <;> exact Ext.cellOf hy (by assumption))) (fun hHeld => ?_)); clear hK K; (try simp only [Act.put, Ord.a, Ord.b, Ord.c]))
  refine Ord.K 5 43 ?_
  refine Ord.K 6 49 ?_
  refine Ord.K 7 50 ?_
  refine Ord.K 8 12 ?_
  refine Ord.K 9 13 ?_
  refine wpAnyH_done (by kernel_rfl) ?_ _
  have h : Ext V9 w9 := hHeld
  replace P7 := Lib.hid (P7.out.ext h)
  replace P8 := Lib.hid (P8.out.ext h)
  replace BT := Lib.hid (BT.out.ext h)
  replace BU := Lib.hid (BU.out.ext h)
  replace EX := Lib.hid (EX.out.trans h)
  obtain ⟨a1, cap1, rfl, F1⟩ := O1.zxs HP2.out
  have P1 := Lib.hid O1
  clear h hHeld hy hr O1 g1 g2 ye00 ye01 ye02 ye03 ye10 ye20
  go_wp2_with fail
  refine (eqInt64S_same _ _ _ _ _ _ F1 (F0.out.ext EX.out)).mono ?_
  rintro e w10 ⟨rfl, h⟩
  replace P7 := Lib.hid (P7.out.ext h)
  replace P8 := Lib.hid (P8.out.ext h)
  replace BT := Lib.hid (BT.out.ext h)
  replace BU := Lib.hid (BU.out.ext h)
  replace P1 := Lib.hid (P1.out.ext h)
  replace EX := Lib.hid (EX.out.trans h)
  clear h F1
  have d1 : ∀ w', Ext w10 w' → w'.cell? ⟨w.heap.size + 1, 0, none⟩ = some (.slice a fs.length cap) := fun w' h => e10 w' ((X.out.trans EX.out).trans h)
  have d2 : ∀ w', Ext w10 w' → w'.cell? ⟨bt, 0, none⟩ = some (.slice (some ⟨B7, 0, none⟩) fs.length fs.length) := fun w' h => h.cellOf (BT.out 0 _ rfl).1
  have hr := Ext.refl w10
  go_upto_region 14 with fail
  refine wp_region_held_drew (S := (fun w' => Ext w10 w')) (by kernel_rfl) (by (try dsimp only); first | go_keep | exact (Ext.refl _).drew | exact Res.new2.drew | exact Res.new4.drew | exact ResB.drew (by assumption) | exact ResC.drew (by assumption) | assumption | exact Ext.drew (by assumption) | exact Res.drew (by assumption)) (fun hHeld => ?_)
  refine Ord.K 0 60 ?_
  refine Ord.K 1 61 ?_
  (refine wpAnyH_ready (rs := [2]) (by kernel_rfl) (by simp) ?_; refine AllReadyH.cons rfl (fun K hK => ?_) AllReadyH.nil; go_simp; (first | (go_at_call 18; refine (TT1.out _ ((X.out.trans EX.out).trans (by first | assumption | exact (Ext.refl _).drew))).mono ?_; rintro e wc ⟨B12, rfl, -, O12, hy⟩) | (go_at_call 20; refine (eqTrack_same _ _ _ _ _ _ ((P7.out.ext (by assumption)).fxs HM1.out) (O12.fxs HM1.out)).mono ?_; rintro e w12 ⟨rfl, hy⟩)); go_wp2_with fail; (refine hK.out _ _ (by first | assumption | exact Ext.trans (by assumption) hy | exact Res.ext (by assumption) hy | exact ResB.ext (by assumption) hy | exact ResC.ext (by assumption) hy | (go_split_ands; (repeat' apply And.intro) <;> exact Ext.cellOf hy (by assumption))) (fun hHeld => ?_)); clear hK K; (try simp only [Act.put, Ord.a, Ord.b, Ord.c]))
  (refine wpAnyH_ready (rs := [3]) (by kernel_rfl) (by simp) ?_; refine AllReadyH.cons rfl (fun K hK => ?_) AllReadyH.nil; go_simp; (first | (go_at_call 18; refine (TT1.out _ ((X.out.trans EX.out).trans (by first | assumption | exact (Ext.refl _).drew))).mono ?_; rintro e wc ⟨B12, rfl, -, O12, hy⟩) | (go_at_call 20; refine (eqTrack_same _ _ _ _ _ _ ((P7.out.ext (by assumption)).fxs HM1.out) (O12.fxs HM1.out)).mono ?_; rintro e w12 ⟨rfl, hy⟩)); go_wp2_with fail; (refine hK.out _ _ (by first | assumption | exact Ext.trans (by assumption) hy | exact Res.ext (by assumption) hy | exact ResB.ext (by assumption) hy | exact ResC.ext (by assumption) hy | (go_split_ands; (repeat' apply And.intro) <;> exact Ext.cellOf hy (by assumption))) (fun hHeld => ?_)); clear hK K; (try simp only [Act.put, Ord.a, Ord.b, Ord.c]))
  refine Ord.K 4 64 ?_
  refine wpAnyH_done (by kernel_rfl) ?_ _
  have h : Ext w10 w12 := hHeld
  replace P7 := Lib.hid (P7.out.ext h)
  replace P8 := Lib.hid (P8.out.ext h)
  replace BT := Lib.hid (BT.out.ext h)
  replace BU := Lib.hid (BU.out.ext h)
  replace P1 := Lib.hid (P1.out.ext h)
  replace EX := Lib.hid (EX.out.trans h)
  clear h hHeld hy hr O12 d1 d2
  have d1 : ∀ w', Ext w12 w' → w'.cell? ⟨w.heap.size + 1 + 1, 0, none⟩ = some (.slice b gs.length cb) := fun w' h => e20 w' ((X.out.trans EX.out).trans h)
  have d2 : ∀ w', Ext w12 w' → w'.cell? ⟨bu, 0, none⟩ = some (.slice (some ⟨B8, 0, none⟩) gs.length gs.length) := fun w' h => h.cellOf (BU.out 0 _ rfl).1
  have hr := Ext.refl w12
  go_upto_region 16 with fail
  refine wp_region_held_drew (S := (fun w' => Ext w12 w')) (by kernel_rfl) (by (try dsimp only); first | go_keep | exact (Ext.refl _).drew | exact Res.new2.drew | exact Res.new4.drew | exact ResB.drew (by assumption) | exact ResC.drew (by assumption) | assumption | exact Ext.drew (by assumption) | exact Res.drew (by assumption)) (fun hHeld => ?_)
  refine Ord.K 0 65 ?_
  refine Ord.K 1 66 ?_
  (refine wpAnyH_ready (rs := [2]) (by kernel_rfl) (by simp) ?_; refine AllReadyH.cons rfl (fun K hK => ?_) AllReadyH.nil; go_simp; (first | (go_at_call 18; refine (TT2.out _ ((X.out.trans EX.out).trans (by first | assumption | exact (Ext.refl _).drew))).mono ?_; rintro e wc ⟨B12, rfl, -, O12, hy⟩) | (go_at_call 20; refine (eqTrack_same _ _ _ _ _ _ ((P8.out.ext (by assumption)).fxs HM2.out) (O12.fxs HM2.out)).mono ?_; rintro e w14 ⟨rfl, hy⟩)); go_wp2_with fail; (refine hK.out _ _ (by first | assumption | exact Ext.trans (by assumption) hy | exact Res.ext (by assumption) hy | exact ResB.ext (by assumption) hy | exact ResC.ext (by assumption) hy | (go_split_ands; (repeat' apply And.intro) <;> exact Ext.cellOf hy (by assumption))) (fun hHeld => ?_)); clear hK K; (try simp only [Act.put, Ord.a, Ord.b, Ord.c]))
  (refine wpAnyH_ready (rs := [3]) (by kernel_rfl) (by simp) ?_; refine AllReadyH.cons rfl (fun K hK => ?_) AllReadyH.nil; go_simp; (first | (go_at_call 18; refine (TT2.out _ ((X.out.trans EX.out).trans (by first | assumption | exact (Ext.refl _).drew))).mono ?_; rintro e wc ⟨B12, rfl, -, O12, hy⟩) | (go_at_call 20; refine (eqTrack_same _ _ _ _ _ _ ((P8.out.ext (by assumption)).fxs HM2.out) (O12.fxs HM2.out)).mono ?_; rintro e w14 ⟨rfl, hy⟩)); go_wp2_with fail; (refine hK.out _ _ (by first | assumption | exact Ext.trans (by assumption) hy | exact Res.ext (by assumption) hy | exact ResB.ext (by assumption) hy | exact ResC.ext (by assumption) hy | (go_split_ands; (repeat' apply And.intro) <;> exact Ext.cellOf hy (by assumption))) (fun hHeld => ?_)); clear hK K; (try simp only [Act.put, Ord.a, Ord.b, Ord.c]))
  refine Ord.K 4 69 ?_
  refine wpAnyH_done (by kernel_rfl) ?_ _
  have h : Ext w12 w14 := hHeld
  replace P7 := Lib.hid (P7.out.ext h)
  replace P8 := Lib.hid (P8.out.ext h)
  replace BT := Lib.hid (BT.out.ext h)
  replace BU := Lib.hid (BU.out.ext h)
  replace P1 := Lib.hid (P1.out.ext h)
  replace EX := Lib.hid (EX.out.trans h)
  clear h hHeld hy hr O12 d1 d2
  have HL5 := HL1.out
  have HL6 := HL2.out
  have zn : decide ((1 : Int) + 3 * (fs.length : Int) + 3 * (gs.length : Int) < 0) = false := decide_eq_false (by omega)
  have zn2 : ¬ ((1 : Int) + 3 * (fs.length : Int) + 3 * (gs.length : Int) < 0) := by omega
  have d0 := (BT.out 0 _ rfl).1
  go_wp2_with fail
  refine (markTrackD B7 _ bt fs _ _ P7.out HL1.out (by omega) (by omega)).mono ?_
  rintro e w15 ⟨rfl, D, hD, h⟩
  have c3 : w6.heap.size ≤ D := by rcases hD with ⟨_, rfl⟩ | rfl <;> omega
  have c4 : D ≤ bt := by
    rcases hD with ⟨h0, rfl⟩ | rfl
    · have := n7 h0; omega
    · omega
  clear hD d0
  replace EX := Lib.hid (h.ext EX.out c3)
  replace P1 := Lib.hid (P1.out.chg h (P1.out.block (by omega)))
  replace P8 := Lib.hid (P8.out.away h (by omega))
  replace BU := Lib.hid (BU.out.chg h (by omega))
  clear h P7 BT
  have d0 := (BU.out 0 _ rfl).1
  go_wp2_with fail
  refine (markTrackD B8 _ bu gs _ _ P8.out HL2.out (by omega) (by omega)).mono ?_
  rintro e w16 ⟨rfl, D2, hD, h⟩
  have c5 : w6.heap.size ≤ D2 := by rcases hD with ⟨_, rfl⟩ | rfl <;> omega
  have c6 : D2 ≤ bu := by
    rcases hD with ⟨h0, rfl⟩ | rfl
    · have := n8 h0; omega
    · omega
  clear hD d0
  replace EX := Lib.hid (h.ext EX.out c5)
  replace P1 := Lib.hid (P1.out.chg h (P1.out.block (by omega)))
  clear h P8 BU
  obtain ⟨_, _, e1, F1⟩ := P1.out.zxs HP2.out
  cases e1
  go_wp2_with fail
  refine (eqInt64S_same _ _ _ _ _ _ F1 (F0.out.ext EX.out)).mono ?_
  rintro e w17 ⟨rfl, h⟩
  replace EX := Lib.hid (EX.out.trans h)
  replace P1 := Lib.hid (P1.out.ext h)
  clear h F1
  go_wp2_with fail
  refine (markOwnZ_any _ _ _ 1 _ P1.out HP3.out (by decide) (by decide)).mono ?_
  rintro e w18 ⟨rfl, HH, h⟩
  replace EX := Lib.hid (h.ext EX.out (by omega))
  replace HH := Lib.hid HH
  clear h P1
  have zg : decide ((1 : Int) + (zs.length : Int) < 0) = false := decide_eq_false (by omega)
  have zg2 : ¬ ((1 : Int) + (zs.length : Int) < 0) := by omega
  go_wp2_with fail
  refine (heldOwnZ_any _ _ 1 _ HH.out HP3.out (by decide) (by decide)).mono ?_
  rintro e w19 ⟨rfl, rfl⟩
  have ye00 : ∀ w', Ext w18 w' → w'.cell? ⟨w.heap.size, 0, none⟩ = some (.int .i64 l) := fun w' h => e00 w' ((X.out.trans EX.out).trans h)
  have ye01 : ∀ w', Ext w18 w' → w'.cell? ⟨w.heap.size, 1, none⟩ = some (.int .i64 s) := fun w' h => e01 w' ((X.out.trans EX.out).trans h)
  have ye02 : ∀ w', Ext w18 w' → w'.cell? ⟨w.heap.size, 2, none⟩ = some (.int .i64 d) := fun w' h => e02 w' ((X.out.trans EX.out).trans h)
  have ye03 : ∀ w', Ext w18 w' → w'.cell? ⟨w.heap.size, 3, none⟩ = some (.int .i64 p) := fun w' h => e03 w' ((X.out.trans EX.out).trans h)
  have ye10 : ∀ w', Ext w18 w' → w'.cell? ⟨w.heap.size + 1, 0, none⟩ = some (.slice a fs.length cap) := fun w' h => e10 w' ((X.out.trans EX.out).trans h)
  have ye20 : ∀ w', Ext w18 w' → w'.cell? ⟨w.heap.size + 1 + 1, 0, none⟩ = some (.slice b gs.length cb) := fun w' h => e20 w' ((X.out.trans EX.out).trans h)
  have hr := Ext.refl w18
  go_upto_region 31 with fail
  refine wp_region_held_drew (S := (fun w' => Ext w18 w')) (by kernel_rfl) (by (try dsimp only); first | go_keep | exact (Ext.refl _).drew | exact Res.new2.drew | exact Res.new4.drew | exact ResB.drew (by assumption) | exact ResC.drew (by assumption) | assumption | exact Ext.drew (by assumption) | exact Res.drew (by assumption)) (fun hHeld => ?_)
  refine Ord.K 0 101 ?_
  refine Ord.K 2 103 ?_
  refine Ord.K 4 105 ?_
  (refine wpAnyH_ready (rs := [1]) (by kernel_rfl) (by simp) ?_; refine AllReadyH.cons rfl (fun K hK => ?_) AllReadyH.nil; go_simp; (first | (go_at_call 17; refine (toWatch_any _ _ _ _ _).mono ?_; rintro e wd ⟨rfl, hy⟩) | (go_at_call 18; refine (TT1.out _ ((X.out.trans EX.out).trans (by first | assumption | exact (Ext.refl _).drew))).mono ?_; rintro e w20 ⟨B20, rfl, -, O20, hy⟩) | (go_at_call 18; refine (TT2.out _ ((X.out.trans EX.out).trans (by first | assumption | exact (Ext.refl _).drew))).mono ?_; rintro e w21 ⟨B21, rfl, -, O21, hy⟩; (replace O20 := O20.ext hy)) | (go_at_call 12; refine (KI.out HL1.out HL2.out _ _ _ (O20.fxs HM1.out) (O21.fxs HM2.out)).mono ?_; rintro e w22 ⟨v2, rfl, O2, hy⟩)); go_wp2_with fail; (refine hK.out _ _ (by first | assumption | exact Ext.trans (by assumption) hy | exact Res.ext (by assumption) hy | exact ResB.ext (by assumption) hy | exact ResC.ext (by assumption) hy | (go_split_ands; (repeat' apply And.intro) <;> exact Ext.cellOf hy (by assumption))) (fun hHeld => ?_)); clear hK K; (try simp only [Act.put, Ord.a, Ord.b, Ord.c]))
  (refine wpAnyH_ready (rs := [3]) (by kernel_rfl) (by simp) ?_; refine AllReadyH.cons rfl (fun K hK => ?_) AllReadyH.nil; go_simp; (first | (go_at_call 17; refine (toWatch_any _ _ _ _ _).mono ?_; rintro e wd ⟨rfl, hy⟩) | (go_at_call 18; refine (TT1.out _ ((X.out.trans EX.out).trans (by first | assumption | exact (Ext.refl _).drew))).mono ?_; rintro e w20 ⟨B20, rfl, -, O20, hy⟩) | (go_at_call 18; refine (TT2.out _ ((X.out.trans EX.out).trans (by first | assumption | exact (Ext.refl _).drew))).mono ?_; rintro e w21 ⟨B21, rfl, -, O21, hy⟩; (replace O20 := O20.ext hy)) | (go_at_call 12; refine (KI.out HL1.out HL2.out _ _ _ (O20.fxs HM1.out) (O21.fxs HM2.out)).mono ?_; rintro e w22 ⟨v2, rfl, O2, hy⟩)); go_wp2_with fail; (refine hK.out _ _ (by first | assumption | exact Ext.trans (by assumption) hy | exact Res.ext (by assumption) hy | exact ResB.ext (by assumption) hy | exact ResC.ext (by assumption) hy | (go_split_ands; (repeat' apply And.intro) <;> exact Ext.cellOf hy (by assumption))) (fun hHeld => ?_)); clear hK K; (try simp only [Act.put, Ord.a, Ord.b, Ord.c]))
  (refine wpAnyH_ready (rs := [5]) (by kernel_rfl) (by simp) ?_; refine AllReadyH.cons rfl (fun K hK => ?_) AllReadyH.nil; go_simp; (first | (go_at_call 17; refine (toWatch_any _ _ _ _ _).mono ?_; rintro e wd ⟨rfl, hy⟩) | (go_at_call 18; refine (TT1.out _ ((X.out.trans EX.out).trans (by first | assumption | exact (Ext.refl _).drew))).mono ?_; rintro e w20 ⟨B20, rfl, -, O20, hy⟩) | (go_at_call 18; refine (TT2.out _ ((X.out.trans EX.out).trans (by first | assumption | exact (Ext.refl _).drew))).mono ?_; rintro e w21 ⟨B21, rfl, -, O21, hy⟩; (replace O20 := O20.ext hy)) | (go_at_call 12; refine (KI.out HL1.out HL2.out _ _ _ (O20.fxs HM1.out) (O21.fxs HM2.out)).mono ?_; rintro e w22 ⟨v2, rfl, O2, hy⟩)); go_wp2_with fail; (refine hK.out _ _ (by first | assumption | exact Ext.trans (by assumption) hy | exact Res.ext (by assumption) hy | exact ResB.ext (by assumption) hy | exact ResC.ext (by assumption) hy | (go_split_ands; (repeat' apply And.intro) <;> exact Ext.cellOf hy (by assumption))) (fun hHeld => ?_)); clear hK K; (try simp only [Act.put, Ord.a, Ord.b, Ord.c]))
  (refine wpAnyH_ready (rs := [6]) (by kernel_rfl) (by simp) ?_; refine AllReadyH.cons rfl (fun K hK => ?_) AllReadyH.nil; go_simp; (first | (go_at_call 17; refine (toWatch_any _ _ _ _ _).mono ?_; rintro e wd ⟨rfl, hy⟩) | (go_at_call 18; refine (TT1.out _ ((X.out.trans EX.out).trans (by first | assumption | exact (Ext.refl _).drew))).mono ?_; rintro e w20 ⟨B20, rfl, -, O20, hy⟩) | (go_at_call 18; refine (TT2.out _ ((X.out.trans EX.out).trans (by first | assumption | exact (Ext.refl _).drew))).mono ?_; rintro e w21 ⟨B21, rfl, -, O21, hy⟩; (replace O20 := O20.ext hy)) | (go_at_call 12; refine (KI.out HL1.out HL2.out _ _ _ (O20.fxs HM1.out) (O21.fxs HM2.out)).mono ?_; rintro e w22 ⟨v2, rfl, O2, hy⟩)); go_wp2_with fail; (refine hK.out _ _ (by first | assumption | exact Ext.trans (by assumption) hy | exact Res.ext (by assumption) hy | exact ResB.ext (by assumption) hy | exact ResC.ext (by assumption) hy | (go_split_ands; (repeat' apply And.intro) <;> exact Ext.cellOf hy (by assumption))) (fun hHeld => ?_)); clear hK K; (try simp only [Act.put, Ord.a, Ord.b, Ord.c]))
  refine Ord.K 7 100 ?_
  refine Ord.K 8 108 ?_
  refine Ord.K 9 109 ?_
  refine Ord.K 10 17 ?_
  refine Ord.K 11 18 ?_
  refine wpAnyH_done (by kernel_rfl) ?_ _
  have h : Ext w18 w22 := hHeld
  replace HH := Lib.hid (HH.out.ext h)
  replace EX := Lib.hid (EX.out.trans h)
  clear h hHeld hy hr O20 O21 ye00 ye01 ye02 ye03 ye10 ye20
  obtain ⟨a3, cap3, rfl, F2⟩ := O2.zxs HP2.out
  clear O2
  go_wp2_with fail
  refine (eqInt64S_same _ _ _ _ _ _ F2 (F0.out.ext EX.out)).mono ?_
  rintro e w23 ⟨rfl, h⟩
  replace EX := Lib.hid (EX.out.trans h)
  replace HH := Lib.hid (HH.out.ext h)
  clear h F2
  go_wp2_with fail
  refine (heldOwnZ_any _ _ 1 _ HH.out HP3.out (by decide) (by decide)).mono ?_
  rintro e w24 ⟨rfl, rfl⟩
  go_wp2
  go_ret
  exact ⟨rfl, hX.trans (X.out.trans EX.out)⟩
end Go.Proofs.YtknelhceaoblhaaGreat.fnExactNearTimes
