/- FnExactManoeuvresOf: for every wind and track, impl.ManoeuvresOf and spec.ManoeuvresOf answer the same, the track is as it was, and the answer has a row of its own. No condition. -/
import Derived.Test.YtkodmdfcppnfoaaMan4
import Derived.Test.YtkodmdfcppnfoaaMko
import Derived.Test.YtkodmdfcppnfoaaOpnT
import Derived.ChangeOld
import Derived.Below
import Derived.Deep.DeepCutAuto
import Derived.Lib.SmallJoins
namespace Go.Proofs.Ytkodmdfcppnfoaa.fnExactManoeuvresOf
open Go.ChangeShapes Go.WideShapes Go.ChangeAt Go.RowKit
open Go.Proofs.Ytkodmdfcppnfoaa.Kit Go.Proofs.Ytkodmdfcppnfoaa.Pts Go.Proofs.Ytkodmdfcppnfoaa.Wnd Go.Proofs.Ytkodmdfcppnfoaa.Trk
open Go.Proofs.Ytkodmdfcppnfoaa.Mnv (M2 OwnM Mxs eqManoeuvreS_same markOwnM_any heldOwnM_any)
set_option linter.unusedVariables false
set_option linter.unusedSimpArgs false

set_option maxRecDepth 100000 in
set_option maxHeartbeats 4000000 in
theorem walk (x y : Int) (a : Option Addr) (cap : Nat) (fs : List F3) (w : World) (hf1 : Fxs w a fs) : Calls Try.prog 10 #[Pt x y, Tr (.slice a fs.length cap)] w fun e w' => e = .returned (.bool true) ∧ Ext w w' := by
  have HF1 := Lib.hid hf1
  have HM1 := Lib.hid hf1.1
  clear hf1
  have KS := Lib.hid (fun (a : Option Addr) (cap : Nat) (w : World) (hf : Fxs w a fs) => manoeuvresOf_spec x y a cap fs w hf)
  have KI := Lib.hid (fun (a : Option Addr) (cap : Nat) (w : World) (hf : Fxs w a fs) => manoeuvresOf_impl x y a cap fs w hf)
  obtain ⟨ck, hck⟩ : ∃ ck, ck = moC x y fs := ⟨_, rfl⟩
  obtain ⟨cs, hcs⟩ : ∃ cs, cs = moL x y fs := ⟨_, rfl⟩
  rw [← hck, ← hcs] at KS KI
  have HCS := Lib.hid hcs
  clear hck hcs
  obtain ⟨W0, hW0⟩ : ∃ W0, W0 = (w.alloc (.cells #[.int .i64 x, .int .i64 y] 52)).alloc (.cells #[.slice a fs.length cap] 61) := ⟨_, rfl⟩
  have hX : Ext w W0 := hW0 ▸ (((Ext.refl w).alloc _).alloc _)
  have hs0 : W0.heap.size = w.heap.size + 1 + 1 := by rw [hW0]; simp
  have e00 : ∀ w', (Ext W0) w' → w'.cell? ⟨w.heap.size, 0, none⟩ = some (.int .i64 x) := fun w' h => h.cellOf (by rw [hW0]; exact ((Ext.refl _).alloc _).cellOf (boxed 0 rfl (by simp)))
  have e01 : ∀ w', (Ext W0) w' → w'.cell? ⟨w.heap.size, 1, none⟩ = some (.int .i64 y) := fun w' h => h.cellOf (by rw [hW0]; exact ((Ext.refl _).alloc _).cellOf (boxed 1 rfl (by simp)))
  have e10 : ∀ w', (Ext W0) w' → w'.cell? ⟨w.heap.size + 1, 0, none⟩ = some (.slice a fs.length cap) := fun w' h => h.cellOf (by rw [hW0]; exact boxed 0 rfl (by simp))
  have q10 := e10 W0 (Ext.refl W0)
  have hr0 := Ext.refl W0
  go_enter Try.func10, Try.ntmps10
  go_wp2_with fail
  refine (szTrack_any _ _ _ _ _ HM1.out (by omega) (by omega)).mono ?_
  rintro e z1 ⟨rfl, hz⟩
  rw [← hW0] at hz
  clear hW0 hr0 q10
  replace hz : Ext W0 z1 := hz
  by_cases hl1 : (1048576 : Int) - fs.length < 0
  · rw [szL_neg hl1]
    go_wp2
    go_ret
    exact ⟨rfl, hX.trans hz⟩
  have hl1b : decide ((1048576 : Int) - fs.length < 0) = false := decide_eq_false hl1
  have HL1 := Lib.hid (show fs.length ≤ 1048576 by omega)
  have HP := Lib.hid (show cs.length ≤ 40 by rw [HCS.out]; exact moL_len x y fs HL1.out)
  have HP2 := Lib.hid (show cs.length ≤ maxLen by unfold maxLen; have := HP.out; omega)
  have HP3 := Lib.hid (show cs.length ≤ 1000 by have := HP.out; omega)
  clear HCS
  rw [szL_pos hl1]
  have TT1 := Lib.hid (fun w' (h : Ext w w') => toTrack_any a cap fs w' (HF1.out.ext h) HL1.out)
  go_wp2_with fail
  refine wp_region_held_drew (S := (fun w' => Ext W0 w')) (by kernel_rfl) (by (try dsimp only); first | go_keep | exact (Ext.refl _).drew | exact Res.new2.drew | exact Res.new4.drew | exact ResB.drew (by assumption) | exact ResC.drew (by assumption) | assumption | exact Ext.drew (by assumption) | exact Res.drew (by assumption)) (fun hHeld => ?_)
  (refine Ord.k 0 22 (v := ?_) ?_ ?_; rotate_left; (intro w h; (try dsimp only at h); go_simp; (try with_reducible rfl)); (try simp only [Act.put, Ord.a, Ord.b, Ord.c]))
  (refine Ord.k 2 24 (v := ?_) ?_ ?_; rotate_left; (intro w h; (try dsimp only at h); go_simp; (try with_reducible rfl)); (try simp only [Act.put, Ord.a, Ord.b, Ord.c]))
  (refine wpAnyH_ready (rs := [1]) (by kernel_rfl) (by simp) ?_; refine AllReadyH.cons rfl (fun K hK => ?_) AllReadyH.nil; go_simp; (first | (go_at_call 36; refine (TT1.out _ (hX.trans (by assumption))).mono ?_; rintro e w1 ⟨B1, rfl, -, O1, hy⟩; have R1 := O1.fxs HM1.out) | (go_at_call 30; refine (toWind_any _ _ _).mono ?_; rintro e w1 ⟨rfl, hy⟩; (try replace R1 := Fxs.ext R1 hy)) | (go_at_call 20; refine (KS.out _ _ _ R1).mono ?_; rintro e z2 ⟨v0, rfl, O0, hy⟩; obtain ⟨a0, cap0, rfl, F0⟩ := O0.mxs HP2.out; clear O0)); go_wp2_with fail; (refine hK.out _ _ (by first | assumption | exact Ext.trans (by assumption) hy | exact Res.ext (by assumption) hy | exact ResB.ext (by assumption) hy | exact ResC.ext (by assumption) hy | (go_split_ands; (repeat' apply And.intro) <;> exact Ext.cellOf hy (by assumption))) (fun hHeld => ?_)); clear hK K; (try simp only [Act.put, Ord.a, Ord.b, Ord.c]))
  (refine wpAnyH_ready (rs := [3]) (by kernel_rfl) (by simp) ?_; refine AllReadyH.cons rfl (fun K hK => ?_) AllReadyH.nil; go_simp; (first | (go_at_call 36; refine (TT1.out _ (hX.trans (by assumption))).mono ?_; rintro e w1 ⟨B1, rfl, -, O1, hy⟩; have R1 := O1.fxs HM1.out) | (go_at_call 30; refine (toWind_any _ _ _).mono ?_; rintro e w1 ⟨rfl, hy⟩; (try replace R1 := Fxs.ext R1 hy)) | (go_at_call 20; refine (KS.out _ _ _ R1).mono ?_; rintro e z2 ⟨v0, rfl, O0, hy⟩; obtain ⟨a0, cap0, rfl, F0⟩ := O0.mxs HP2.out; clear O0)); go_wp2_with fail; (refine hK.out _ _ (by first | assumption | exact Ext.trans (by assumption) hy | exact Res.ext (by assumption) hy | exact ResB.ext (by assumption) hy | exact ResC.ext (by assumption) hy | (go_split_ands; (repeat' apply And.intro) <;> exact Ext.cellOf hy (by assumption))) (fun hHeld => ?_)); clear hK K; (try simp only [Act.put, Ord.a, Ord.b, Ord.c]))
  (refine wpAnyH_ready (rs := [4]) (by kernel_rfl) (by simp) ?_; refine AllReadyH.cons rfl (fun K hK => ?_) AllReadyH.nil; go_simp; (first | (go_at_call 36; refine (TT1.out _ (hX.trans (by assumption))).mono ?_; rintro e w1 ⟨B1, rfl, -, O1, hy⟩; have R1 := O1.fxs HM1.out) | (go_at_call 30; refine (toWind_any _ _ _).mono ?_; rintro e w1 ⟨rfl, hy⟩; (try replace R1 := Fxs.ext R1 hy)) | (go_at_call 20; refine (KS.out _ _ _ R1).mono ?_; rintro e z2 ⟨v0, rfl, O0, hy⟩; obtain ⟨a0, cap0, rfl, F0⟩ := O0.mxs HP2.out; clear O0)); go_wp2_with fail; (refine hK.out _ _ (by first | assumption | exact Ext.trans (by assumption) hy | exact Res.ext (by assumption) hy | exact ResB.ext (by assumption) hy | exact ResC.ext (by assumption) hy | (go_split_ands; (repeat' apply And.intro) <;> exact Ext.cellOf hy (by assumption))) (fun hHeld => ?_)); clear hK K; (try simp only [Act.put, Ord.a, Ord.b, Ord.c]))
  (refine Ord.k 5 21 (v := ?_) ?_ ?_; rotate_left; (intro w h; (try dsimp only at h); go_simp; (try with_reducible rfl)); (try simp only [Act.put, Ord.a, Ord.b, Ord.c]))
  (refine Ord.k 6 27 (v := ?_) ?_ ?_; rotate_left; (intro w h; (try dsimp only at h); go_simp; (try with_reducible rfl)); (try simp only [Act.put, Ord.a, Ord.b, Ord.c]))
  (refine Ord.k 7 28 (v := ?_) ?_ ?_; rotate_left; (intro w h; (try dsimp only at h); go_simp; (try with_reducible rfl)); (try simp only [Act.put, Ord.a, Ord.b, Ord.c]))
  (refine Ord.k 8 6 (v := ?_) ?_ ?_; rotate_left; (intro w h; (try dsimp only at h); go_simp; (try with_reducible rfl)); (try simp only [Act.put, Ord.a, Ord.b, Ord.c]))
  (refine Ord.k 9 7 (v := ?_) ?_ ?_; rotate_left; (intro w h; (try dsimp only at h); go_simp; (try with_reducible rfl)); (try simp only [Act.put, Ord.a, Ord.b, Ord.c]))
  refine wpAnyH_done (by kernel_rfl) ?_ _
  have X := Lib.hid (show Ext W0 z2 from hHeld)
  clear hHeld R1 hz
  replace e00 : ∀ w', Ext z2 w' → w'.cell? ⟨w.heap.size, 0, none⟩ = some (.int .i64 x) := fun w' h => e00 w' (X.out.trans h)
  replace e01 : ∀ w', Ext z2 w' → w'.cell? ⟨w.heap.size, 1, none⟩ = some (.int .i64 y) := fun w' h => e01 w' (X.out.trans h)
  replace e10 : ∀ w', Ext z2 w' → w'.cell? ⟨w.heap.size + 1, 0, none⟩ = some (.slice a fs.length cap) := fun w' h => e10 w' (X.out.trans h)
  have F0' := Lib.hid F0
  have t00 := e10 z2 (Ext.refl z2)
  clear F0 O1 hy
  go_wp2_with fail
  refine (toTrack_any a cap fs _ (HF1.out.ext (hX.trans X.out)) HL1.out).mono ?_
  rintro e y1 ⟨C1, rfl, hC1, P1, hy⟩
  have nC : 0 < fs.length → C1 < y1.heap.size := fun h0 => World.block_lt_of_cell? y1 _ (P1 0 h0).1.1
  generalize hV1 : y1.alloc (.cells #[.slice (some ⟨C1, 0, none⟩) fs.length fs.length] 33) = V1
  have hyV : Ext y1 V1 := hV1 ▸ (Ext.refl _).alloc _
  have sV : V1.heap.size = y1.heap.size + 1 := by rw [← hV1]; simp
  replace P1 := Lib.hid (P1.ext hyV)
  have EX := Lib.hid (hy.trans hyV)
  have sy := Ext.size hy
  have b1 : ∀ w', Ext V1 w' → w'.cell? ⟨y1.heap.size, 0, none⟩ = some (.slice (some ⟨C1, 0, none⟩) fs.length fs.length) := fun w' h => h.cellOf (hV1 ▸ boxed 0 rfl rfl)
  have f00 : ∀ w', Ext V1 w' → w'.cell? ⟨w.heap.size, 0, none⟩ = some (.int .i64 x) := fun w' h => e00 w' (EX.out.trans h)
  have f01 : ∀ w', Ext V1 w' → w'.cell? ⟨w.heap.size, 1, none⟩ = some (.int .i64 y) := fun w' h => e01 w' (EX.out.trans h)
  have f10 : ∀ w', Ext V1 w' → w'.cell? ⟨w.heap.size + 1, 0, none⟩ = some (.slice a fs.length cap) := fun w' h => e10 w' (EX.out.trans h)
  clear hy hyV t00
  go_upto_region 7 with fail
  try rw [hV1]
  clear hV1
  have hv1 := Ext.refl V1
  refine wp_region_held_drew (S := (fun w' => Ext V1 w')) (by kernel_rfl) (by (try dsimp only); first | go_keep | exact (Ext.refl _).drew | exact Res.new2.drew | exact Res.new4.drew | exact ResB.drew (by assumption) | exact ResC.drew (by assumption) | assumption | exact Ext.drew (by assumption) | exact Res.drew (by assumption)) (fun hHeld => ?_)
  (refine Ord.k 0 32 (v := ?_) ?_ ?_; rotate_left; (intro w h; (try dsimp only at h); go_simp; (try with_reducible rfl)); (try simp only [Act.put, Ord.a, Ord.b, Ord.c]))
  (refine Ord.k 2 34 (v := ?_) ?_ ?_; rotate_left; (intro w h; (try dsimp only at h); go_simp; (try with_reducible rfl)); (try simp only [Act.put, Ord.a, Ord.b, Ord.c]))
  (refine wpAnyH_ready (rs := [1]) (by kernel_rfl) (by simp) ?_; refine AllReadyH.cons rfl (fun K hK => ?_) AllReadyH.nil; go_simp; (first | (go_at_call 30; refine (toWind_any _ _ _).mono ?_; rintro e w1 ⟨rfl, hy⟩) | (go_at_call 19; refine (KI.out _ _ _ ((P1.out.ext (by assumption)).fxs HM1.out)).mono ?_; rintro e z3 ⟨v1, rfl, O1, hy⟩; obtain ⟨a1, cap1, rfl, F1⟩ := O1.mxs HP2.out; replace O1 := OwnM.mono (b2 := V1.heap.size) O1 (Ext.size (by assumption)))); go_wp2_with fail; (refine hK.out _ _ (by first | assumption | exact Ext.trans (by assumption) hy | exact Res.ext (by assumption) hy | exact ResB.ext (by assumption) hy | exact ResC.ext (by assumption) hy | (go_split_ands; (repeat' apply And.intro) <;> exact Ext.cellOf hy (by assumption))) (fun hHeld => ?_)); clear hK K; (try simp only [Act.put, Ord.a, Ord.b, Ord.c]))
  (refine wpAnyH_ready (rs := [3]) (by kernel_rfl) (by simp) ?_; refine AllReadyH.cons rfl (fun K hK => ?_) AllReadyH.nil; go_simp; (first | (go_at_call 30; refine (toWind_any _ _ _).mono ?_; rintro e w1 ⟨rfl, hy⟩) | (go_at_call 19; refine (KI.out _ _ _ ((P1.out.ext (by assumption)).fxs HM1.out)).mono ?_; rintro e z3 ⟨v1, rfl, O1, hy⟩; obtain ⟨a1, cap1, rfl, F1⟩ := O1.mxs HP2.out; replace O1 := OwnM.mono (b2 := V1.heap.size) O1 (Ext.size (by assumption)))); go_wp2_with fail; (refine hK.out _ _ (by first | assumption | exact Ext.trans (by assumption) hy | exact Res.ext (by assumption) hy | exact ResB.ext (by assumption) hy | exact ResC.ext (by assumption) hy | (go_split_ands; (repeat' apply And.intro) <;> exact Ext.cellOf hy (by assumption))) (fun hHeld => ?_)); clear hK K; (try simp only [Act.put, Ord.a, Ord.b, Ord.c]))
  (refine Ord.k 4 31 (v := ?_) ?_ ?_; rotate_left; (intro w h; (try dsimp only at h); go_simp; (try with_reducible rfl)); (try simp only [Act.put, Ord.a, Ord.b, Ord.c]))
  (refine Ord.k 5 36 (v := ?_) ?_ ?_; rotate_left; (intro w h; (try dsimp only at h); go_simp; (try with_reducible rfl)); (try simp only [Act.put, Ord.a, Ord.b, Ord.c]))
  (refine Ord.k 6 37 (v := ?_) ?_ ?_; rotate_left; (intro w h; (try dsimp only at h); go_simp; (try with_reducible rfl)); (try simp only [Act.put, Ord.a, Ord.b, Ord.c]))
  (refine Ord.k 7 9 (v := ?_) ?_ ?_; rotate_left; (intro w h; (try dsimp only at h); go_simp; (try with_reducible rfl)); (try simp only [Act.put, Ord.a, Ord.b, Ord.c]))
  (refine Ord.k 8 10 (v := ?_) ?_ ?_; rotate_left; (intro w h; (try dsimp only at h); go_simp; (try with_reducible rfl)); (try simp only [Act.put, Ord.a, Ord.b, Ord.c]))
  refine wpAnyH_done (by kernel_rfl) ?_ _
  have h3 : Ext V1 z3 := hHeld
  replace P1 := Lib.hid (P1.out.ext h3)
  replace EX := Lib.hid (EX.out.trans h3)
  replace O1 := Lib.hid O1
  have b1' := b1 z3 h3
  clear hHeld hy hv1
  go_wp2_with fail
  refine (eqManoeuvreS_same _ _ _ _ _ _ F1 (F0'.out.ext EX.out)).mono ?_
  rintro e z4 ⟨rfl, h⟩
  replace h3 : Ext V1 z4 := h3.trans h
  replace P1 := Lib.hid (P1.out.ext h)
  replace EX := Lib.hid (EX.out.trans h)
  replace O1 := Lib.hid (O1.out.ext h)
  clear h F1 b1'
  replace b1 : ∀ w', Ext z4 w' → w'.cell? ⟨y1.heap.size, 0, none⟩ = some (.slice (some ⟨C1, 0, none⟩) fs.length fs.length) := fun w' h => b1 w' (h3.trans h)
  replace f00 : ∀ w', Ext z4 w' → w'.cell? ⟨w.heap.size, 0, none⟩ = some (.int .i64 x) := fun w' h => f00 w' (h3.trans h)
  replace f01 : ∀ w', Ext z4 w' → w'.cell? ⟨w.heap.size, 1, none⟩ = some (.int .i64 y) := fun w' h => f01 w' (h3.trans h)
  replace f10 : ∀ w', Ext z4 w' → w'.cell? ⟨w.heap.size + 1, 0, none⟩ = some (.slice a fs.length cap) := fun w' h => f10 w' (h3.trans h)
  clear h3
  go_upto_region 10 with fail
  refine wp_region_held_drew (S := (fun w' => Ext z4 w')) (by kernel_rfl) (by (try dsimp only); first | go_keep | exact (Ext.refl _).drew | exact Res.new2.drew | exact Res.new4.drew | exact ResB.drew (by assumption) | exact ResC.drew (by assumption) | assumption | exact Ext.drew (by assumption) | exact Res.drew (by assumption)) (fun hHeld => ?_)
  (refine Ord.k 0 47 (v := ?_) ?_ ?_; rotate_left; (intro w h; (try dsimp only at h); go_simp; (try with_reducible rfl)); (try simp only [Act.put, Ord.a, Ord.b, Ord.c]))
  (refine Ord.k 1 48 (v := ?_) ?_ ?_; rotate_left; (intro w h; (try dsimp only at h); go_simp; (try with_reducible rfl)); (try simp only [Act.put, Ord.a, Ord.b, Ord.c]))
  (refine wpAnyH_ready (rs := [2]) (by kernel_rfl) (by simp) ?_; refine AllReadyH.cons rfl (fun K hK => ?_) AllReadyH.nil; go_simp; (first | (go_at_call 36; refine (toTrack_any a cap fs _ (HF1.out.ext (hX.trans (X.out.trans (EX.out.trans (by first | assumption | exact (Ext.refl _).drew))))) HL1.out).mono ?_; rintro e w1 ⟨B1, rfl, -, Q1, hy⟩) | (go_at_call 37; refine (eqTrack_same _ _ _ _ _ _ ((P1.out.ext (by assumption)).fxs HM1.out) (Q1.fxs HM1.out)).mono ?_; rintro e z5 ⟨rfl, hy⟩)); go_wp2_with fail; (refine hK.out _ _ (by first | assumption | exact Ext.trans (by assumption) hy | exact Res.ext (by assumption) hy | exact ResB.ext (by assumption) hy | exact ResC.ext (by assumption) hy | (go_split_ands; (repeat' apply And.intro) <;> exact Ext.cellOf hy (by assumption))) (fun hHeld => ?_)); clear hK K; (try simp only [Act.put, Ord.a, Ord.b, Ord.c]))
  (refine wpAnyH_ready (rs := [3]) (by kernel_rfl) (by simp) ?_; refine AllReadyH.cons rfl (fun K hK => ?_) AllReadyH.nil; go_simp; (first | (go_at_call 36; refine (toTrack_any a cap fs _ (HF1.out.ext (hX.trans (X.out.trans (EX.out.trans (by first | assumption | exact (Ext.refl _).drew))))) HL1.out).mono ?_; rintro e w1 ⟨B1, rfl, -, Q1, hy⟩) | (go_at_call 37; refine (eqTrack_same _ _ _ _ _ _ ((P1.out.ext (by assumption)).fxs HM1.out) (Q1.fxs HM1.out)).mono ?_; rintro e z5 ⟨rfl, hy⟩)); go_wp2_with fail; (refine hK.out _ _ (by first | assumption | exact Ext.trans (by assumption) hy | exact Res.ext (by assumption) hy | exact ResB.ext (by assumption) hy | exact ResC.ext (by assumption) hy | (go_split_ands; (repeat' apply And.intro) <;> exact Ext.cellOf hy (by assumption))) (fun hHeld => ?_)); clear hK K; (try simp only [Act.put, Ord.a, Ord.b, Ord.c]))
  (refine Ord.k 4 51 (v := ?_) ?_ ?_; rotate_left; (intro w h; (try dsimp only at h); go_simp; (try with_reducible rfl)); (try simp only [Act.put, Ord.a, Ord.b, Ord.c]))
  refine wpAnyH_done (by kernel_rfl) ?_ _
  have h : Ext z4 z5 := hHeld
  have xt := b1 z5 h
  have t0 := f00 z5 h
  have t1 := f01 z5 h
  have t2 := f10 z5 h
  replace P1 := Lib.hid (P1.out.ext h)
  replace EX := Lib.hid (EX.out.trans h)
  replace O1 := Lib.hid (O1.out.ext h)
  clear h hHeld hy Q1 b1 f00 f01 f10 e00 e01 e10
  have zn : decide ((1 : Int) + 3 * (fs.length : Int) < 0) = false := decide_eq_false (by omega)
  go_wp2_with fail
  refine (markNew_any C1 _ y1.heap.size _ _ _ P1.out HL1.out (by decide) (by decide)).mono ?_
  rintro e z6 ⟨rfl, C, hC, h⟩
  have c1 : z2.heap.size ≤ C := by rcases hC with ⟨_, rfl⟩ | rfl <;> omega
  have c2 : C ≤ y1.heap.size := by
    rcases hC with ⟨h0, rfl⟩ | rfl
    · have := nC h0; omega
    · omega
  clear hC
  have hs2 := Ext.size X.out
  replace t0 := h.cellOf (by simp; omega) t0
  replace t1 := h.cellOf (by simp; omega) t1
  replace t2 := h.cellOf (by simp; omega) t2
  replace EX := Lib.hid (h.ext EX.out c1)
  replace O1 := Lib.hid (O1.out.chg h (O1.out.block (by omega)))
  clear h P1 xt
  obtain ⟨_, _, e1, F1⟩ := O1.out.mxs HP2.out
  cases e1
  go_wp2_with fail
  refine (eqManoeuvreS_same _ _ _ _ _ _ F1 (F0'.out.ext EX.out)).mono ?_
  rintro e z7 ⟨rfl, h⟩
  replace t0 := h.cellOf t0
  replace t1 := h.cellOf t1
  replace t2 := h.cellOf t2
  replace EX := Lib.hid (EX.out.trans h)
  replace O1 := Lib.hid (O1.out.ext h)
  clear h F1
  have zg : decide ((1 : Int) + 2 * (cs.length : Int) < 0) = false := decide_eq_false (by omega)
  go_wp2_with fail
  refine (markOwnM_any _ _ _ 1 _ O1.out HP3.out (by decide) (by decide)).mono ?_
  rintro e z8 ⟨rfl, HH, h⟩
  have hcell : ∀ (p : Addr) (x : Value), p.block < V1.heap.size → z7.cell? p = some x → z8.cell? p = some x := by
    intro p x hp hc
    rcases h with h | ⟨B, hB, _, h⟩
    · exact h.cellOf hc
    · exact h.cellOf (by omega) hc
  replace t0 := hcell _ _ (by simp; omega) t0
  replace t1 := hcell _ _ (by simp; omega) t1
  replace t2 := hcell _ _ (by simp; omega) t2
  replace EX := Lib.hid (h.ext EX.out (by omega))
  replace HH := Lib.hid HH
  clear h O1 hcell
  go_wp2_with fail
  refine (heldOwnM_any _ _ 1 _ HH.out HP3.out (by decide) (by decide)).mono ?_
  rintro e z9 ⟨rfl, rfl⟩
  have e00 : ∀ w', Ext z8 w' → w'.cell? ⟨w.heap.size, 0, none⟩ = some (.int .i64 x) := fun w' h => h.cellOf t0
  have e01 : ∀ w', Ext z8 w' → w'.cell? ⟨w.heap.size, 1, none⟩ = some (.int .i64 y) := fun w' h => h.cellOf t1
  have e10 : ∀ w', Ext z8 w' → w'.cell? ⟨w.heap.size + 1, 0, none⟩ = some (.slice a fs.length cap) := fun w' h => h.cellOf t2
  clear t0 t1 t2
  have hr8 := Ext.refl z8
  go_upto_region 24 with fail
  refine wp_region_held_drew (S := (fun w' => Ext z8 w')) (by kernel_rfl) (by (try dsimp only); first | go_keep | exact (Ext.refl _).drew | exact Res.new2.drew | exact Res.new4.drew | exact ResB.drew (by assumption) | exact ResC.drew (by assumption) | assumption | exact Ext.drew (by assumption) | exact Res.drew (by assumption)) (fun hHeld => ?_)
  (refine Ord.k 0 80 (v := ?_) ?_ ?_; rotate_left; (intro w h; (try dsimp only at h); go_simp; (try with_reducible rfl)); (try simp only [Act.put, Ord.a, Ord.b, Ord.c]))
  (refine Ord.k 2 82 (v := ?_) ?_ ?_; rotate_left; (intro w h; (try dsimp only at h); go_simp; (try with_reducible rfl)); (try simp only [Act.put, Ord.a, Ord.b, Ord.c]))
  (refine wpAnyH_ready (rs := [1]) (by kernel_rfl) (by simp) ?_; refine AllReadyH.cons rfl (fun K hK => ?_) AllReadyH.nil; go_simp; (first | (go_at_call 36; refine (toTrack_any a cap fs _ (HF1.out.ext (hX.trans (X.out.trans (EX.out.trans (by first | assumption | exact (Ext.refl _).drew))))) HL1.out).mono ?_; rintro e w1 ⟨B1, rfl, -, Q1, hy⟩; have R1 := Q1.fxs HM1.out) | (go_at_call 30; refine (toWind_any _ _ _).mono ?_; rintro e w1 ⟨rfl, hy⟩; (try replace R1 := Fxs.ext R1 hy)) | (go_at_call 19; refine (KI.out _ _ _ R1).mono ?_; rintro e z10 ⟨v2, rfl, O2, hy⟩; obtain ⟨a2, cap2, rfl, F2⟩ := O2.mxs HP2.out; clear O2)); go_wp2_with fail; (refine hK.out _ _ (by first | assumption | exact Ext.trans (by assumption) hy | exact Res.ext (by assumption) hy | exact ResB.ext (by assumption) hy | exact ResC.ext (by assumption) hy | (go_split_ands; (repeat' apply And.intro) <;> exact Ext.cellOf hy (by assumption))) (fun hHeld => ?_)); clear hK K; (try simp only [Act.put, Ord.a, Ord.b, Ord.c]))
  (refine wpAnyH_ready (rs := [3]) (by kernel_rfl) (by simp) ?_; refine AllReadyH.cons rfl (fun K hK => ?_) AllReadyH.nil; go_simp; (first | (go_at_call 36; refine (toTrack_any a cap fs _ (HF1.out.ext (hX.trans (X.out.trans (EX.out.trans (by first | assumption | exact (Ext.refl _).drew))))) HL1.out).mono ?_; rintro e w1 ⟨B1, rfl, -, Q1, hy⟩; have R1 := Q1.fxs HM1.out) | (go_at_call 30; refine (toWind_any _ _ _).mono ?_; rintro e w1 ⟨rfl, hy⟩; (try replace R1 := Fxs.ext R1 hy)) | (go_at_call 19; refine (KI.out _ _ _ R1).mono ?_; rintro e z10 ⟨v2, rfl, O2, hy⟩; obtain ⟨a2, cap2, rfl, F2⟩ := O2.mxs HP2.out; clear O2)); go_wp2_with fail; (refine hK.out _ _ (by first | assumption | exact Ext.trans (by assumption) hy | exact Res.ext (by assumption) hy | exact ResB.ext (by assumption) hy | exact ResC.ext (by assumption) hy | (go_split_ands; (repeat' apply And.intro) <;> exact Ext.cellOf hy (by assumption))) (fun hHeld => ?_)); clear hK K; (try simp only [Act.put, Ord.a, Ord.b, Ord.c]))
  (refine wpAnyH_ready (rs := [4]) (by kernel_rfl) (by simp) ?_; refine AllReadyH.cons rfl (fun K hK => ?_) AllReadyH.nil; go_simp; (first | (go_at_call 36; refine (toTrack_any a cap fs _ (HF1.out.ext (hX.trans (X.out.trans (EX.out.trans (by first | assumption | exact (Ext.refl _).drew))))) HL1.out).mono ?_; rintro e w1 ⟨B1, rfl, -, Q1, hy⟩; have R1 := Q1.fxs HM1.out) | (go_at_call 30; refine (toWind_any _ _ _).mono ?_; rintro e w1 ⟨rfl, hy⟩; (try replace R1 := Fxs.ext R1 hy)) | (go_at_call 19; refine (KI.out _ _ _ R1).mono ?_; rintro e z10 ⟨v2, rfl, O2, hy⟩; obtain ⟨a2, cap2, rfl, F2⟩ := O2.mxs HP2.out; clear O2)); go_wp2_with fail; (refine hK.out _ _ (by first | assumption | exact Ext.trans (by assumption) hy | exact Res.ext (by assumption) hy | exact ResB.ext (by assumption) hy | exact ResC.ext (by assumption) hy | (go_split_ands; (repeat' apply And.intro) <;> exact Ext.cellOf hy (by assumption))) (fun hHeld => ?_)); clear hK K; (try simp only [Act.put, Ord.a, Ord.b, Ord.c]))
  (refine Ord.k 5 79 (v := ?_) ?_ ?_; rotate_left; (intro w h; (try dsimp only at h); go_simp; (try with_reducible rfl)); (try simp only [Act.put, Ord.a, Ord.b, Ord.c]))
  (refine Ord.k 6 85 (v := ?_) ?_ ?_; rotate_left; (intro w h; (try dsimp only at h); go_simp; (try with_reducible rfl)); (try simp only [Act.put, Ord.a, Ord.b, Ord.c]))
  (refine Ord.k 7 86 (v := ?_) ?_ ?_; rotate_left; (intro w h; (try dsimp only at h); go_simp; (try with_reducible rfl)); (try simp only [Act.put, Ord.a, Ord.b, Ord.c]))
  (refine Ord.k 8 14 (v := ?_) ?_ ?_; rotate_left; (intro w h; (try dsimp only at h); go_simp; (try with_reducible rfl)); (try simp only [Act.put, Ord.a, Ord.b, Ord.c]))
  (refine Ord.k 9 15 (v := ?_) ?_ ?_; rotate_left; (intro w h; (try dsimp only at h); go_simp; (try with_reducible rfl)); (try simp only [Act.put, Ord.a, Ord.b, Ord.c]))
  refine wpAnyH_done (by kernel_rfl) ?_ _
  have h : Ext z8 z10 := hHeld
  replace EX := Lib.hid (EX.out.trans h)
  replace HH := Lib.hid (HH.out.ext h)
  clear h hHeld hy e00 e01 e10 R1 Q1 hr8
  go_wp2_with fail
  refine (eqManoeuvreS_same _ _ _ _ _ _ F2 (F0'.out.ext EX.out)).mono ?_
  rintro e z11 ⟨rfl, h⟩
  replace EX := Lib.hid (EX.out.trans h)
  replace HH := Lib.hid (HH.out.ext h)
  clear h F2
  go_wp2_with fail
  refine (heldOwnM_any _ _ 1 _ HH.out HP3.out (by decide) (by decide)).mono ?_
  rintro e z12 ⟨rfl, rfl⟩
  go_wp2
  go_ret
  exact ⟨rfl, hX.trans (X.out.trans EX.out)⟩

end Go.Proofs.Ytkodmdfcppnfoaa.fnExactManoeuvresOf
