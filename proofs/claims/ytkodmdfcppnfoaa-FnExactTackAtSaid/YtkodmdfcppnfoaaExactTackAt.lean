/- FnExactTackAt: for every wind, track and time, impl.TackAt and spec.TackAt answer the same, with the same code, and the track is as it was. No condition. -/
import Derived.Test.YtkodmdfcppnfoaaWnd3
import Derived.Test.YtkodmdfcppnfoaaOpnT
import Derived.ChangeOld
import Derived.Below
import Derived.Deep.DeepCutAuto
import Derived.Lib.SmallJoins
namespace Go.Proofs.Ytkodmdfcppnfoaa.fnExactTackAt
open Go.ChangeShapes Go.WideShapes Go.ChangeAt Go.RowKit
open Go.Proofs.Ytkodmdfcppnfoaa.Kit Go.Proofs.Ytkodmdfcppnfoaa.Pts Go.Proofs.Ytkodmdfcppnfoaa.Wnd Go.Proofs.Ytkodmdfcppnfoaa.Trk
set_option linter.unusedVariables false
set_option linter.unusedSimpArgs false

set_option maxRecDepth 100000 in
set_option maxHeartbeats 4000000 in
theorem walk (x y : Int) (a : Option Addr) (cap : Nat) (fs : List F3) (t : Int) (w : World) (hf1 : Fxs w a fs) : Calls Try.prog 9 #[Pt x y, Tr (.slice a fs.length cap), .int .i64 t] w fun e w' => e = .returned (.bool true) ∧ Ext w w' := by
  have HF1 := Lib.hid hf1
  have HM1 := Lib.hid hf1.1
  clear hf1
  have KS := Lib.hid (fun (a : Option Addr) (cap : Nat) (w : World) (hf : Fxs w a fs) => tackAt_spec x y a cap fs t w hf)
  have KI := Lib.hid (fun (a : Option Addr) (w : World) (hf : Fxs w a fs) => tackAt_impl x y a fs.length fs t w hf (Nat.le_refl _))
  generalize taV x y fs t = V at *
  generalize taC x y fs t = C at *
  obtain ⟨W0, hW0⟩ : ∃ W0, W0 = (w.alloc (.cells #[.int .i64 x, .int .i64 y] 52)).alloc (.cells #[.slice a fs.length cap] 61) := ⟨_, rfl⟩
  have hX : Ext w W0 := hW0 ▸ (((Ext.refl w).alloc _).alloc _)
  have hs0 : W0.heap.size = w.heap.size + 1 + 1 := by rw [hW0]; simp
  have e00 : ∀ w', (Ext W0) w' → w'.cell? ⟨w.heap.size, 0, none⟩ = some (.int .i64 x) := fun w' h => h.cellOf (by rw [hW0]; exact ((Ext.refl _).alloc _).cellOf (boxed 0 rfl (by simp)))
  have e01 : ∀ w', (Ext W0) w' → w'.cell? ⟨w.heap.size, 1, none⟩ = some (.int .i64 y) := fun w' h => h.cellOf (by rw [hW0]; exact ((Ext.refl _).alloc _).cellOf (boxed 1 rfl (by simp)))
  have e10 : ∀ w', (Ext W0) w' → w'.cell? ⟨w.heap.size + 1, 0, none⟩ = some (.slice a fs.length cap) := fun w' h => h.cellOf (by rw [hW0]; exact boxed 0 rfl (by simp))
  have hr0 := Ext.refl W0
  have q10 := e10 W0 hr0
  go_enter Try.func9, Try.ntmps9
  go_wp2_with fail
  refine (szTrack_any _ _ _ _ _ HM1.out (by omega) (by omega)).mono ?_
  rintro e z1 ⟨rfl, hz⟩
  rw [← hW0] at hz
  clear hW0 hr0 q10
  replace hz : Ext W0 z1 := hz
  by_cases hl1 : (1048576 : Int) - fs.length < 0
  · rw [szL_neg hl1]
    go_wp2
    go_ret
    exact ⟨rfl, hX.trans hz⟩
  have hl1b : decide ((1048576 : Int) - fs.length < 0) = false := decide_eq_false hl1
  have HL1 := Lib.hid (show fs.length ≤ 1048576 by omega)
  rw [szL_pos hl1]
  have TT1 := Lib.hid (fun w' (h : Ext w w') => toTrack_any a cap fs w' (HF1.out.ext h) HL1.out)
  go_wp2_with fail
  refine wp_region_held_drew (S := (fun w' => Ext W0 w')) (by kernel_rfl) (by (try dsimp only); first | go_keep | exact (Ext.refl _).drew | exact Res.new2.drew | exact Res.new4.drew | exact ResB.drew (by assumption) | exact ResC.drew (by assumption) | assumption | exact Ext.drew (by assumption) | exact Res.drew (by assumption)) (fun hHeld => ?_)
  (refine Ord.k 0 19 (v := ?_) ?_ ?_; rotate_left; (intro w h; (try dsimp only at h); go_simp; (try with_reducible rfl)); (try simp only [Act.put, Ord.a, Ord.b, Ord.c]))
  (refine Ord.k 2 21 (v := ?_) ?_ ?_; rotate_left; (intro w h; (try dsimp only at h); go_simp; (try with_reducible rfl)); (try simp only [Act.put, Ord.a, Ord.b, Ord.c]))
  (refine Ord.k 4 23 (v := ?_) ?_ ?_; rotate_left; (intro w h; (try dsimp only at h); go_simp; (try with_reducible rfl)); (try simp only [Act.put, Ord.a, Ord.b, Ord.c]))
  (refine wpAnyH_ready (rs := [1]) (by kernel_rfl) (by simp) ?_; refine AllReadyH.cons rfl (fun K hK => ?_) AllReadyH.nil; go_simp; (first | (go_at_call 36; refine (TT1.out _ (hX.trans (by assumption))).mono ?_; rintro e w1 ⟨B1, rfl, -, O1, hy⟩; have R1 := O1.fxs HM1.out) | (go_at_call 30; refine (toWind_any _ _ _).mono ?_; rintro e w1 ⟨rfl, hy⟩; (try replace R1 := Fxs.ext R1 hy)) | (go_at_call 35; refine (KS.out _ _ _ R1).mono ?_; rintro e z2 ⟨rfl, hy⟩)); go_wp2_with fail; (refine hK.out _ _ (by first | assumption | exact Ext.trans (by assumption) hy | exact Res.ext (by assumption) hy | exact ResB.ext (by assumption) hy | exact ResC.ext (by assumption) hy | (go_split_ands; (repeat' apply And.intro) <;> exact Ext.cellOf hy (by assumption))) (fun hHeld => ?_)); clear hK K; (try simp only [Act.put, Ord.a, Ord.b, Ord.c]))
  (refine wpAnyH_ready (rs := [3]) (by kernel_rfl) (by simp) ?_; refine AllReadyH.cons rfl (fun K hK => ?_) AllReadyH.nil; go_simp; (first | (go_at_call 36; refine (TT1.out _ (hX.trans (by assumption))).mono ?_; rintro e w1 ⟨B1, rfl, -, O1, hy⟩; have R1 := O1.fxs HM1.out) | (go_at_call 30; refine (toWind_any _ _ _).mono ?_; rintro e w1 ⟨rfl, hy⟩; (try replace R1 := Fxs.ext R1 hy)) | (go_at_call 35; refine (KS.out _ _ _ R1).mono ?_; rintro e z2 ⟨rfl, hy⟩)); go_wp2_with fail; (refine hK.out _ _ (by first | assumption | exact Ext.trans (by assumption) hy | exact Res.ext (by assumption) hy | exact ResB.ext (by assumption) hy | exact ResC.ext (by assumption) hy | (go_split_ands; (repeat' apply And.intro) <;> exact Ext.cellOf hy (by assumption))) (fun hHeld => ?_)); clear hK K; (try simp only [Act.put, Ord.a, Ord.b, Ord.c]))
  (refine wpAnyH_ready (rs := [5]) (by kernel_rfl) (by simp) ?_; refine AllReadyH.cons rfl (fun K hK => ?_) AllReadyH.nil; go_simp; (first | (go_at_call 36; refine (TT1.out _ (hX.trans (by assumption))).mono ?_; rintro e w1 ⟨B1, rfl, -, O1, hy⟩; have R1 := O1.fxs HM1.out) | (go_at_call 30; refine (toWind_any _ _ _).mono ?_; rintro e w1 ⟨rfl, hy⟩; (try replace R1 := Fxs.ext R1 hy)) | (go_at_call 35; refine (KS.out _ _ _ R1).mono ?_; rintro e z2 ⟨rfl, hy⟩)); go_wp2_with fail; (refine hK.out _ _ (by first | assumption | exact Ext.trans (by assumption) hy | exact Res.ext (by assumption) hy | exact ResB.ext (by assumption) hy | exact ResC.ext (by assumption) hy | (go_split_ands; (repeat' apply And.intro) <;> exact Ext.cellOf hy (by assumption))) (fun hHeld => ?_)); clear hK K; (try simp only [Act.put, Ord.a, Ord.b, Ord.c]))
  (refine Ord.k 6 18 (v := ?_) ?_ ?_; rotate_left; (intro w h; (try dsimp only at h); go_simp; (try with_reducible rfl)); (try simp only [Act.put, Ord.a, Ord.b, Ord.c]))
  (refine Ord.k 7 25 (v := ?_) ?_ ?_; rotate_left; (intro w h; (try dsimp only at h); go_simp; (try with_reducible rfl)); (try simp only [Act.put, Ord.a, Ord.b, Ord.c]))
  (refine Ord.k 8 26 (v := ?_) ?_ ?_; rotate_left; (intro w h; (try dsimp only at h); go_simp; (try with_reducible rfl)); (try simp only [Act.put, Ord.a, Ord.b, Ord.c]))
  (refine Ord.k 9 8 (v := ?_) ?_ ?_; rotate_left; (intro w h; (try dsimp only at h); go_simp; (try with_reducible rfl)); (try simp only [Act.put, Ord.a, Ord.b, Ord.c]))
  (refine Ord.k 10 9 (v := ?_) ?_ ?_; rotate_left; (intro w h; (try dsimp only at h); go_simp; (try with_reducible rfl)); (try simp only [Act.put, Ord.a, Ord.b, Ord.c]))
  refine wpAnyH_done (by kernel_rfl) ?_ _
  have X := Lib.hid (show Ext W0 z2 from hHeld)
  clear hHeld R1 hz hy O1
  have t10 := e10 z2 X.out
  go_wp2_with fail
  refine (toTrack_any a cap fs _ (HF1.out.ext (hX.trans X.out)) HL1.out).mono ?_
  rintro e y1 ⟨C1, rfl, hC1, P1, hy⟩
  generalize hV1 : y1.alloc (.cells #[.slice (some ⟨C1, 0, none⟩) fs.length fs.length] 33) = V1
  have hyV : Ext y1 V1 := hV1 ▸ (Ext.refl _).alloc _
  replace P1 := Lib.hid (P1.ext hyV)
  have EX := Lib.hid (X.out.trans (hy.trans hyV))
  have b1 : ∀ w', Ext V1 w' → w'.cell? ⟨y1.heap.size, 0, none⟩ = some (.slice (some ⟨C1, 0, none⟩) fs.length fs.length) := fun w' h => h.cellOf (hV1 ▸ boxed 0 rfl rfl)
  have f00 : ∀ w', Ext V1 w' → w'.cell? ⟨w.heap.size, 0, none⟩ = some (.int .i64 x) := fun w' h => e00 w' (EX.out.trans h)
  have f01 : ∀ w', Ext V1 w' → w'.cell? ⟨w.heap.size, 1, none⟩ = some (.int .i64 y) := fun w' h => e01 w' (EX.out.trans h)
  have f10 : ∀ w', Ext V1 w' → w'.cell? ⟨w.heap.size + 1, 0, none⟩ = some (.slice a fs.length cap) := fun w' h => e10 w' (EX.out.trans h)
  clear hy hyV t10 e00 e01 e10 X
  go_upto_region 7 with fail
  try rw [hV1]
  clear hV1
  have hv1 := Ext.refl V1
  refine wp_region_held_drew (S := (fun w' => Ext V1 w')) (by kernel_rfl) (by (try dsimp only); first | go_keep | exact (Ext.refl _).drew | exact Res.new2.drew | exact Res.new4.drew | exact ResB.drew (by assumption) | exact ResC.drew (by assumption) | assumption | exact Ext.drew (by assumption) | exact Res.drew (by assumption)) (fun hHeld => ?_)
  (refine Ord.k 0 30 (v := ?_) ?_ ?_; rotate_left; (intro w h; (try dsimp only at h); go_simp; (try with_reducible rfl)); (try simp only [Act.put, Ord.a, Ord.b, Ord.c]))
  (refine Ord.k 2 32 (v := ?_) ?_ ?_; rotate_left; (intro w h; (try dsimp only at h); go_simp; (try with_reducible rfl)); (try simp only [Act.put, Ord.a, Ord.b, Ord.c]))
  (refine Ord.k 3 33 (v := ?_) ?_ ?_; rotate_left; (intro w h; (try dsimp only at h); go_simp; (try with_reducible rfl)); (try simp only [Act.put, Ord.a, Ord.b, Ord.c]))
  (refine wpAnyH_ready (rs := [1]) (by kernel_rfl) (by simp) ?_; refine AllReadyH.cons rfl (fun K hK => ?_) AllReadyH.nil; go_simp; (first | (go_at_call 30; refine (toWind_any _ _ _).mono ?_; rintro e w1 ⟨rfl, hy⟩) | (go_at_call 21; refine (KI.out _ _ ((P1.out.ext (by assumption)).fxs HM1.out)).mono ?_; rintro e z3 ⟨rfl, hy⟩)); go_wp2_with fail; (refine hK.out _ _ (by first | assumption | exact Ext.trans (by assumption) hy | exact Res.ext (by assumption) hy | exact ResB.ext (by assumption) hy | exact ResC.ext (by assumption) hy | (go_split_ands; (repeat' apply And.intro) <;> exact Ext.cellOf hy (by assumption))) (fun hHeld => ?_)); clear hK K; (try simp only [Act.put, Ord.a, Ord.b, Ord.c]))
  (refine wpAnyH_ready (rs := [4]) (by kernel_rfl) (by simp) ?_; refine AllReadyH.cons rfl (fun K hK => ?_) AllReadyH.nil; go_simp; (first | (go_at_call 30; refine (toWind_any _ _ _).mono ?_; rintro e w1 ⟨rfl, hy⟩) | (go_at_call 21; refine (KI.out _ _ ((P1.out.ext (by assumption)).fxs HM1.out)).mono ?_; rintro e z3 ⟨rfl, hy⟩)); go_wp2_with fail; (refine hK.out _ _ (by first | assumption | exact Ext.trans (by assumption) hy | exact Res.ext (by assumption) hy | exact ResB.ext (by assumption) hy | exact ResC.ext (by assumption) hy | (go_split_ands; (repeat' apply And.intro) <;> exact Ext.cellOf hy (by assumption))) (fun hHeld => ?_)); clear hK K; (try simp only [Act.put, Ord.a, Ord.b, Ord.c]))
  (refine Ord.k 5 29 (v := ?_) ?_ ?_; rotate_left; (intro w h; (try dsimp only at h); go_simp; (try with_reducible rfl)); (try simp only [Act.put, Ord.a, Ord.b, Ord.c]))
  (refine Ord.k 6 35 (v := ?_) ?_ ?_; rotate_left; (intro w h; (try dsimp only at h); go_simp; (try with_reducible rfl)); (try simp only [Act.put, Ord.a, Ord.b, Ord.c]))
  (refine Ord.k 7 36 (v := ?_) ?_ ?_; rotate_left; (intro w h; (try dsimp only at h); go_simp; (try with_reducible rfl)); (try simp only [Act.put, Ord.a, Ord.b, Ord.c]))
  (refine Ord.k 8 11 (v := ?_) ?_ ?_; rotate_left; (intro w h; (try dsimp only at h); go_simp; (try with_reducible rfl)); (try simp only [Act.put, Ord.a, Ord.b, Ord.c]))
  (refine Ord.k 9 12 (v := ?_) ?_ ?_; rotate_left; (intro w h; (try dsimp only at h); go_simp; (try with_reducible rfl)); (try simp only [Act.put, Ord.a, Ord.b, Ord.c]))
  refine wpAnyH_done (by kernel_rfl) ?_ _
  have h3 : Ext V1 z3 := hHeld
  clear hHeld hy hv1
  replace P1 := Lib.hid (P1.out.ext h3)
  replace EX := Lib.hid (EX.out.trans h3)
  replace b1 : ∀ w', Ext z3 w' → w'.cell? ⟨y1.heap.size, 0, none⟩ = some (.slice (some ⟨C1, 0, none⟩) fs.length fs.length) := fun w' h => b1 w' (h3.trans h)
  replace f10 : ∀ w', Ext z3 w' → w'.cell? ⟨w.heap.size + 1, 0, none⟩ = some (.slice a fs.length cap) := fun w' h => f10 w' (h3.trans h)
  clear h3 f00 f01
  have hz3 := Ext.refl z3
  go_upto_region 10 with fail
  refine wp_region_held_drew (S := (fun w' => Ext z3 w')) (by kernel_rfl) (by (try dsimp only); first | go_keep | exact (Ext.refl _).drew | exact Res.new2.drew | exact Res.new4.drew | exact ResB.drew (by assumption) | exact ResC.drew (by assumption) | assumption | exact Ext.drew (by assumption) | exact Res.drew (by assumption)) (fun hHeld => ?_)
  (refine Ord.k 0 45 (v := ?_) ?_ ?_; rotate_left; (intro w h; (try dsimp only at h); go_simp; (try with_reducible rfl)); (try simp only [Act.put, Ord.a, Ord.b, Ord.c]))
  (refine Ord.k 1 46 (v := ?_) ?_ ?_; rotate_left; (intro w h; (try dsimp only at h); go_simp; (try with_reducible rfl)); (try simp only [Act.put, Ord.a, Ord.b, Ord.c]))
  (refine wpAnyH_ready (rs := [2]) (by kernel_rfl) (by simp) ?_; refine AllReadyH.cons rfl (fun K hK => ?_) AllReadyH.nil; go_simp; (first | (go_at_call 36; refine (toTrack_any a cap fs _ (HF1.out.ext (hX.trans (EX.out.trans (by first | assumption | exact (Ext.refl _).drew)))) HL1.out).mono ?_; rintro e w1 ⟨B1, rfl, -, Q1, hy⟩) | (go_at_call 37; refine (eqTrack_same _ _ _ _ _ _ ((P1.out.ext (by assumption)).fxs HM1.out) (Q1.fxs HM1.out)).mono ?_; rintro e z5 ⟨rfl, hy⟩)); go_wp2_with fail; (refine hK.out _ _ (by first | assumption | exact Ext.trans (by assumption) hy | exact Res.ext (by assumption) hy | exact ResB.ext (by assumption) hy | exact ResC.ext (by assumption) hy | (go_split_ands; (repeat' apply And.intro) <;> exact Ext.cellOf hy (by assumption))) (fun hHeld => ?_)); clear hK K; (try simp only [Act.put, Ord.a, Ord.b, Ord.c]))
  (refine wpAnyH_ready (rs := [3]) (by kernel_rfl) (by simp) ?_; refine AllReadyH.cons rfl (fun K hK => ?_) AllReadyH.nil; go_simp; (first | (go_at_call 36; refine (toTrack_any a cap fs _ (HF1.out.ext (hX.trans (EX.out.trans (by first | assumption | exact (Ext.refl _).drew)))) HL1.out).mono ?_; rintro e w1 ⟨B1, rfl, -, Q1, hy⟩) | (go_at_call 37; refine (eqTrack_same _ _ _ _ _ _ ((P1.out.ext (by assumption)).fxs HM1.out) (Q1.fxs HM1.out)).mono ?_; rintro e z5 ⟨rfl, hy⟩)); go_wp2_with fail; (refine hK.out _ _ (by first | assumption | exact Ext.trans (by assumption) hy | exact Res.ext (by assumption) hy | exact ResB.ext (by assumption) hy | exact ResC.ext (by assumption) hy | (go_split_ands; (repeat' apply And.intro) <;> exact Ext.cellOf hy (by assumption))) (fun hHeld => ?_)); clear hK K; (try simp only [Act.put, Ord.a, Ord.b, Ord.c]))
  (refine Ord.k 4 49 (v := ?_) ?_ ?_; rotate_left; (intro w h; (try dsimp only at h); go_simp; (try with_reducible rfl)); (try simp only [Act.put, Ord.a, Ord.b, Ord.c]))
  refine wpAnyH_done (by kernel_rfl) ?_ _
  go_wp2
  go_ret
  exact ⟨rfl, hX.trans (EX.out.trans (by assumption))⟩

end Go.Proofs.Ytkodmdfcppnfoaa.fnExactTackAt
