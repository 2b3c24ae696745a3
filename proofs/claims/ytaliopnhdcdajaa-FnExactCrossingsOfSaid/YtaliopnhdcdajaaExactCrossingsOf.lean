/- FnExactCrossingsOf: for all arguments, impl.CrossingsOf and spec.CrossingsOf answer the same, the arguments are as they were, and the answer has a row of its own. No condition. -/
import Derived.Test.YtaliopnhdcdajaaCro2
import Derived.Test.YtaliopnhdcdajaaMko
import Derived.Test.YtaliopnhdcdajaaOpnT
import Derived.Test.YtaliopnhdcdajaaOpn
import Derived.Test.YtaliopnhdcdajaaSeg
import Derived.ChangeOld
import Derived.Below
import Derived.Lib.SmallJoins
namespace Go.Proofs.Ytaliopnhdcdajaa.fnExactCrossingsOf
open Go.ChangeShapes Go.WideShapes Go.ChangeAt Go.RowKit
open Go.Proofs.Ytaliopnhdcdajaa.Kit Go.Proofs.Ytaliopnhdcdajaa.Pts Go.Proofs.Ytaliopnhdcdajaa.Seg Go.Proofs.Ytaliopnhdcdajaa.Trk Go.Proofs.Ytaliopnhdcdajaa.Rwk Go.Proofs.Ytaliopnhdcdajaa.Crs
set_option linter.unusedVariables false
set_option linter.unusedSimpArgs false

set_option maxRecDepth 100000 in
set_option maxHeartbeats 4000000 in
theorem walk (a : Option Addr) (cap : Nat) (fs : List F3) (p q u v : Int) (w : World) (hf1 : Fxs w a fs) : Calls Try.prog 3 #[Tr (.slice a fs.length cap), Sg p q u v] w fun e w' => e = .returned (.bool true) ∧ Ext w w' := by
  have HF1 := Lib.hid hf1
  have HM1 := Lib.hid hf1.1
  clear hf1
  have KS := Lib.hid (fun (a : Option Addr) (cap : Nat) (w : World) (hf : Fxs w a fs) => crossingsOf_spec a cap fs p q u v w hf)
  have KI := Lib.hid (fun (a : Option Addr) (cap : Nat) (w : World) (hf : Fxs w a fs) => crossingsOf_impl a cap fs p q u v w hf)
  have HP := Lib.hid (allC_len fs p q u v)
  obtain ⟨ck, hck⟩ : ∃ ck, ck = codC fs p q u v := ⟨_, rfl⟩
  obtain ⟨cs, hcs⟩ : ∃ cs, cs = allC fs p q u v := ⟨_, rfl⟩
  rw [← hck, ← hcs] at KS KI
  rw [← hcs] at HP
  clear hck hcs
  have HP2 := Lib.hid (show cs.length ≤ maxLen by unfold maxLen; have := HP.out; omega)
  have HP3 := Lib.hid (show cs.length ≤ 1000 by have := HP.out; omega)
  obtain ⟨W0, hW0⟩ : ∃ W0, W0 = (w.alloc (.cells #[.slice a fs.length cap] 24)).alloc (.cells #[.int .i64 p, .int .i64 q, .int .i64 u, .int .i64 v] 28) := ⟨_, rfl⟩
  have hX : Ext w W0 := hW0 ▸ (((Ext.refl w).alloc _).alloc _)
  have hs0 : W0.heap.size = w.heap.size + 1 + 1 := by rw [hW0]; simp
  have e00 : ∀ w', (Ext W0) w' → w'.cell? ⟨w.heap.size, 0, none⟩ = some (.slice a fs.length cap) := fun w' h => h.cellOf (by rw [hW0]; exact ((Ext.refl _).alloc _).cellOf (boxed 0 rfl (by simp)))
  have e10 : ∀ w', (Ext W0) w' → w'.cell? ⟨w.heap.size + 1, 0, none⟩ = some (.int .i64 p) := fun w' h => h.cellOf (by rw [hW0]; exact boxed 0 rfl (by simp))
  have e11 : ∀ w', (Ext W0) w' → w'.cell? ⟨w.heap.size + 1, 1, none⟩ = some (.int .i64 q) := fun w' h => h.cellOf (by rw [hW0]; exact boxed 1 rfl (by simp))
  have e12 : ∀ w', (Ext W0) w' → w'.cell? ⟨w.heap.size + 1, 2, none⟩ = some (.int .i64 u) := fun w' h => h.cellOf (by rw [hW0]; exact boxed 2 rfl (by simp))
  have e13 : ∀ w', (Ext W0) w' → w'.cell? ⟨w.heap.size + 1, 3, none⟩ = some (.int .i64 v) := fun w' h => h.cellOf (by rw [hW0]; exact boxed 3 rfl (by simp))
  have hr0 := Ext.refl W0
  go_enter Try.func3, Try.ntmps3
  go_wp2_with fail
  refine (szTrack_any _ _ _ _ _ HM1.out (by omega) (by omega)).mono ?_
  rintro e z1 ⟨rfl, hz⟩
  rw [← hW0] at hz
  clear hW0 hr0
  replace hz : Ext W0 z1 := hz
  by_cases hl1 : (1048576 : Int) - fs.length < 0
  · rw [szL_neg hl1]
    go_wp2
    go_ret
    exact ⟨rfl, hX.trans hz⟩
  have hl1b : decide ((1048576 : Int) - fs.length < 0) = false := decide_eq_false hl1
  have HL1 := Lib.hid (show fs.length ≤ 1048576 by omega)
  rw [szL_pos hl1]
  have TT1 := Lib.hid (fun w' (h : Ext w w') => toTrack_any a cap fs w' (HF1.out.ext h) HL1.out)
  go_wp2_with fail
  refine wp_region_held_drew (S := (fun w' => Ext W0 w')) (by kernel_rfl) (by (try dsimp only); first | go_keep | exact (Ext.refl _).drew | exact Res.new2.drew | exact Res.new4.drew | exact ResB.drew (by assumption) | exact ResC.drew (by assumption) | assumption | exact Ext.drew (by assumption) | exact Res.drew (by assumption)) (fun hHeld => ?_)
  (refine Ord.takeH 0 22 (v := ?_) rfl rfl (by kernel_rfl) (by kernel_rfl) (by kernel_rfl) (fun _ _ _ h => h) (by rfl) ?_ (by assumption) ?_; rotate_left; (intro w hSw; (try dsimp only at hSw); go_simp; (first | done | with_reducible rfl)); (try simp only [Act.put, List.setIfInBounds_toArray, List.set_cons_zero, List.set_cons_succ]))
  (refine Ord.takeH 2 24 (v := ?_) rfl rfl (by kernel_rfl) (by kernel_rfl) (by kernel_rfl) (fun _ _ _ h => h) (by rfl) ?_ (by assumption) ?_; rotate_left; (intro w hSw; (try dsimp only at hSw); go_simp; (first | done | with_reducible rfl)); (try simp only [Act.put, List.setIfInBounds_toArray, List.set_cons_zero, List.set_cons_succ]))
  (refine wpAnyH_ready (rs := [1]) (by kernel_rfl) (by simp) ?_; refine AllReadyH.cons rfl (fun K hK => ?_) AllReadyH.nil; go_simp; (first | (go_at_call 11; refine (TT1.out _ (hX.trans (by assumption))).mono ?_; rintro e w1 ⟨B1, rfl, -, O1, hy⟩; have R1 := O1.fxs HM1.out) | (go_at_call 12; refine (toLine_any _ _ _ _ _).mono ?_; rintro e w1 ⟨rfl, hy⟩; (try replace R1 := Fxs.ext R1 hy)) | (go_at_call 10; refine (KS.out _ _ _ R1).mono ?_; rintro e z2 ⟨v0, rfl, O0, hy⟩; obtain ⟨a0, cap0, rfl, F0⟩ := O0.cxs HP2.out; clear O0)); go_wp2_with fail; (refine hK.out _ _ (by first | assumption | exact Ext.trans (by assumption) hy | exact Res.ext (by assumption) hy | exact ResB.ext (by assumption) hy | exact ResC.ext (by assumption) hy | (go_split_ands; (repeat' apply And.intro) <;> exact Ext.cellOf hy (by assumption))) (fun hHeld => ?_)); clear hK K; (try simp only [Act.put, List.setIfInBounds_toArray, List.set_cons_zero, List.set_cons_succ]))
  (refine wpAnyH_ready (rs := [3]) (by kernel_rfl) (by simp) ?_; refine AllReadyH.cons rfl (fun K hK => ?_) AllReadyH.nil; go_simp; (first | (go_at_call 11; refine (TT1.out _ (hX.trans (by assumption))).mono ?_; rintro e w1 ⟨B1, rfl, -, O1, hy⟩; have R1 := O1.fxs HM1.out) | (go_at_call 12; refine (toLine_any _ _ _ _ _).mono ?_; rintro e w1 ⟨rfl, hy⟩; (try replace R1 := Fxs.ext R1 hy)) | (go_at_call 10; refine (KS.out _ _ _ R1).mono ?_; rintro e z2 ⟨v0, rfl, O0, hy⟩; obtain ⟨a0, cap0, rfl, F0⟩ := O0.cxs HP2.out; clear O0)); go_wp2_with fail; (refine hK.out _ _ (by first | assumption | exact Ext.trans (by assumption) hy | exact Res.ext (by assumption) hy | exact ResB.ext (by assumption) hy | exact ResC.ext (by assumption) hy | (go_split_ands; (repeat' apply And.intro) <;> exact Ext.cellOf hy (by assumption))) (fun hHeld => ?_)); clear hK K; (try simp only [Act.put, List.setIfInBounds_toArray, List.set_cons_zero, List.set_cons_succ]))
  (refine wpAnyH_ready (rs := [4]) (by kernel_rfl) (by simp) ?_; refine AllReadyH.cons rfl (fun K hK => ?_) AllReadyH.nil; go_simp; (first | (go_at_call 11; refine (TT1.out _ (hX.trans (by assumption))).mono ?_; rintro e w1 ⟨B1, rfl, -, O1, hy⟩; have R1 := O1.fxs HM1.out) | (go_at_call 12; refine (toLine_any _ _ _ _ _).mono ?_; rintro e w1 ⟨rfl, hy⟩; (try replace R1 := Fxs.ext R1 hy)) | (go_at_call 10; refine (KS.out _ _ _ R1).mono ?_; rintro e z2 ⟨v0, rfl, O0, hy⟩; obtain ⟨a0, cap0, rfl, F0⟩ := O0.cxs HP2.out; clear O0)); go_wp2_with fail; (refine hK.out _ _ (by first | assumption | exact Ext.trans (by assumption) hy | exact Res.ext (by assumption) hy | exact ResB.ext (by assumption) hy | exact ResC.ext (by assumption) hy | (go_split_ands; (repeat' apply And.intro) <;> exact Ext.cellOf hy (by assumption))) (fun hHeld => ?_)); clear hK K; (try simp only [Act.put, List.setIfInBounds_toArray, List.set_cons_zero, List.set_cons_succ]))
  (refine Ord.takeH 5 21 (v := ?_) rfl rfl (by kernel_rfl) (by kernel_rfl) (by kernel_rfl) (fun _ _ _ h => h) (by rfl) ?_ (by assumption) ?_; rotate_left; (intro w hSw; (try dsimp only at hSw); go_simp; (first | done | with_reducible rfl)); (try simp only [Act.put, List.setIfInBounds_toArray, List.set_cons_zero, List.set_cons_succ]))
  (refine Ord.takeH 6 27 (v := ?_) rfl rfl (by kernel_rfl) (by kernel_rfl) (by kernel_rfl) (fun _ _ _ h => h) (by rfl) ?_ (by assumption) ?_; rotate_left; (intro w hSw; (try dsimp only at hSw); go_simp; (first | done | with_reducible rfl)); (try simp only [Act.put, List.setIfInBounds_toArray, List.set_cons_zero, List.set_cons_succ]))
  (refine Ord.takeH 7 28 (v := ?_) rfl rfl (by kernel_rfl) (by kernel_rfl) (by kernel_rfl) (fun _ _ _ h => h) (by rfl) ?_ (by assumption) ?_; rotate_left; (intro w hSw; (try dsimp only at hSw); go_simp; (first | done | with_reducible rfl)); (try simp only [Act.put, List.setIfInBounds_toArray, List.set_cons_zero, List.set_cons_succ]))
  (refine Ord.takeH 8 6 (v := ?_) rfl rfl (by kernel_rfl) (by kernel_rfl) (by kernel_rfl) (fun _ _ _ h => h) (by rfl) ?_ (by assumption) ?_; rotate_left; (intro w hSw; (try dsimp only at hSw); go_simp; (first | done | with_reducible rfl)); (try simp only [Act.put, List.setIfInBounds_toArray, List.set_cons_zero, List.set_cons_succ]))
  (refine Ord.takeH 9 7 (v := ?_) rfl rfl (by kernel_rfl) (by kernel_rfl) (by kernel_rfl) (fun _ _ _ h => h) (by rfl) ?_ (by assumption) ?_; rotate_left; (intro w hSw; (try dsimp only at hSw); go_simp; (first | done | with_reducible rfl)); (try simp only [Act.put, List.setIfInBounds_toArray, List.set_cons_zero, List.set_cons_succ]))
  refine wpAnyH_done (by kernel_rfl) ?_ _
  have X := Lib.hid (show Ext W0 z2 from hHeld)
  clear hHeld R1 hz
  replace e00 : ∀ w', Ext z2 w' → w'.cell? ⟨w.heap.size, 0, none⟩ = some (.slice a fs.length cap) := fun w' h => e00 w' (X.out.trans h)
  replace e10 : ∀ w', Ext z2 w' → w'.cell? ⟨w.heap.size + 1, 0, none⟩ = some (.int .i64 p) := fun w' h => e10 w' (X.out.trans h)
  replace e11 : ∀ w', Ext z2 w' → w'.cell? ⟨w.heap.size + 1, 1, none⟩ = some (.int .i64 q) := fun w' h => e11 w' (X.out.trans h)
  replace e12 : ∀ w', Ext z2 w' → w'.cell? ⟨w.heap.size + 1, 2, none⟩ = some (.int .i64 u) := fun w' h => e12 w' (X.out.trans h)
  replace e13 : ∀ w', Ext z2 w' → w'.cell? ⟨w.heap.size + 1, 3, none⟩ = some (.int .i64 v) := fun w' h => e13 w' (X.out.trans h)
  have F0' := Lib.hid F0
  have t00 := e00 z2 (Ext.refl z2)
  clear F0 O1 hy
  go_wp2_with fail
  refine (toTrack_any a cap fs _ (HF1.out.ext (hX.trans X.out)) HL1.out).mono ?_
  rintro e y1 ⟨C1, rfl, hC1, P1, hy⟩
  have nC : 0 < fs.length → C1 < y1.heap.size := fun h0 => World.block_lt_of_cell? y1 _ (P1 0 h0).1.1
  generalize hV1 : y1.alloc (.cells #[.slice (some ⟨C1, 0, none⟩) fs.length fs.length] 35) = V1
  have hyV : Ext y1 V1 := hV1 ▸ (Ext.refl _).alloc _
  have sV : V1.heap.size = y1.heap.size + 1 := by rw [← hV1]; simp
  replace P1 := Lib.hid (P1.ext hyV)
  have EX := Lib.hid (hy.trans hyV)
  have sy := Ext.size hy
  have b1 : ∀ w', Ext V1 w' → w'.cell? ⟨y1.heap.size, 0, none⟩ = some (.slice (some ⟨C1, 0, none⟩) fs.length fs.length) := fun w' h => h.cellOf (hV1 ▸ boxed 0 rfl rfl)
  have f00 : ∀ w', Ext V1 w' → w'.cell? ⟨w.heap.size, 0, none⟩ = some (.slice a fs.length cap) := fun w' h => e00 w' (EX.out.trans h)
  have f10 : ∀ w', Ext V1 w' → w'.cell? ⟨w.heap.size + 1, 0, none⟩ = some (.int .i64 p) := fun w' h => e10 w' (EX.out.trans h)
  have f11 : ∀ w', Ext V1 w' → w'.cell? ⟨w.heap.size + 1, 1, none⟩ = some (.int .i64 q) := fun w' h => e11 w' (EX.out.trans h)
  have f12 : ∀ w', Ext V1 w' → w'.cell? ⟨w.heap.size + 1, 2, none⟩ = some (.int .i64 u) := fun w' h => e12 w' (EX.out.trans h)
  have f13 : ∀ w', Ext V1 w' → w'.cell? ⟨w.heap.size + 1, 3, none⟩ = some (.int .i64 v) := fun w' h => e13 w' (EX.out.trans h)
  clear hy hyV t00
  go_upto_region 7 with fail
  try rw [hV1]
  clear hV1
  have hv1 := Ext.refl V1
  refine wp_region_held_drew (S := (fun w' => Ext V1 w')) (by kernel_rfl) (by (try dsimp only); first | go_keep | exact (Ext.refl _).drew | exact Res.new2.drew | exact Res.new4.drew | exact ResB.drew (by assumption) | exact ResC.drew (by assumption) | assumption | exact Ext.drew (by assumption) | exact Res.drew (by assumption)) (fun hHeld => ?_)
  (refine Ord.takeH 0 32 (v := ?_) rfl rfl (by kernel_rfl) (by kernel_rfl) (by kernel_rfl) (fun _ _ _ h => h) (by rfl) ?_ (by assumption) ?_; rotate_left; (intro w hSw; (try dsimp only at hSw); go_simp; (first | done | with_reducible rfl)); (try simp only [Act.put, List.setIfInBounds_toArray, List.set_cons_zero, List.set_cons_succ]))
  (refine Ord.takeH 1 33 (v := ?_) rfl rfl (by kernel_rfl) (by kernel_rfl) (by kernel_rfl) (fun _ _ _ h => h) (by rfl) ?_ (by assumption) ?_; rotate_left; (intro w hSw; (try dsimp only at hSw); go_simp; (first | done | with_reducible rfl)); (try simp only [Act.put, List.setIfInBounds_toArray, List.set_cons_zero, List.set_cons_succ]))
  (refine wpAnyH_ready (rs := [2]) (by kernel_rfl) (by simp) ?_; refine AllReadyH.cons rfl (fun K hK => ?_) AllReadyH.nil; go_simp; (first | (go_at_call 12; refine (toLine_any _ _ _ _ _).mono ?_; rintro e w1 ⟨rfl, hy⟩) | (go_at_call 13; refine (KI.out _ _ _ ((P1.out.ext (by assumption)).fxs HM1.out)).mono ?_; rintro e z3 ⟨v1, rfl, O1, hy⟩; obtain ⟨a1, cap1, rfl, F1⟩ := O1.cxs HP2.out; replace O1 := OwnC.mono (b2 := V1.heap.size) O1 (Ext.size (by assumption)))); go_wp2_with fail; (refine hK.out _ _ (by first | assumption | exact Ext.trans (by assumption) hy | exact Res.ext (by assumption) hy | exact ResB.ext (by assumption) hy | exact ResC.ext (by assumption) hy | (go_split_ands; (repeat' apply And.intro) <;> exact Ext.cellOf hy (by assumption))) (fun hHeld => ?_)); clear hK K; (try simp only [Act.put, List.setIfInBounds_toArray, List.set_cons_zero, List.set_cons_succ]))
  (refine wpAnyH_ready (rs := [3]) (by kernel_rfl) (by simp) ?_; refine AllReadyH.cons rfl (fun K hK => ?_) AllReadyH.nil; go_simp; (first | (go_at_call 12; refine (toLine_any _ _ _ _ _).mono ?_; rintro e w1 ⟨rfl, hy⟩) | (go_at_call 13; refine (KI.out _ _ _ ((P1.out.ext (by assumption)).fxs HM1.out)).mono ?_; rintro e z3 ⟨v1, rfl, O1, hy⟩; obtain ⟨a1, cap1, rfl, F1⟩ := O1.cxs HP2.out; replace O1 := OwnC.mono (b2 := V1.heap.size) O1 (Ext.size (by assumption)))); go_wp2_with fail; (refine hK.out _ _ (by first | assumption | exact Ext.trans (by assumption) hy | exact Res.ext (by assumption) hy | exact ResB.ext (by assumption) hy | exact ResC.ext (by assumption) hy | (go_split_ands; (repeat' apply And.intro) <;> exact Ext.cellOf hy (by assumption))) (fun hHeld => ?_)); clear hK K; (try simp only [Act.put, List.setIfInBounds_toArray, List.set_cons_zero, List.set_cons_succ]))
  (refine Ord.takeH 4 31 (v := ?_) rfl rfl (by kernel_rfl) (by kernel_rfl) (by kernel_rfl) (fun _ _ _ h => h) (by rfl) ?_ (by assumption) ?_; rotate_left; (intro w hSw; (try dsimp only at hSw); go_simp; (first | done | with_reducible rfl)); (try simp only [Act.put, List.setIfInBounds_toArray, List.set_cons_zero, List.set_cons_succ]))
  (refine Ord.takeH 5 36 (v := ?_) rfl rfl (by kernel_rfl) (by kernel_rfl) (by kernel_rfl) (fun _ _ _ h => h) (by rfl) ?_ (by assumption) ?_; rotate_left; (intro w hSw; (try dsimp only at hSw); go_simp; (first | done | with_reducible rfl)); (try simp only [Act.put, List.setIfInBounds_toArray, List.set_cons_zero, List.set_cons_succ]))
  (refine Ord.takeH 6 37 (v := ?_) rfl rfl (by kernel_rfl) (by kernel_rfl) (by kernel_rfl) (fun _ _ _ h => h) (by rfl) ?_ (by assumption) ?_; rotate_left; (intro w hSw; (try dsimp only at hSw); go_simp; (first | done | with_reducible rfl)); (try simp only [Act.put, List.setIfInBounds_toArray, List.set_cons_zero, List.set_cons_succ]))
  (refine Ord.takeH 7 9 (v := ?_) rfl rfl (by kernel_rfl) (by kernel_rfl) (by kernel_rfl) (fun _ _ _ h => h) (by rfl) ?_ (by assumption) ?_; rotate_left; (intro w hSw; (try dsimp only at hSw); go_simp; (first | done | with_reducible rfl)); (try simp only [Act.put, List.setIfInBounds_toArray, List.set_cons_zero, List.set_cons_succ]))
  (refine Ord.takeH 8 10 (v := ?_) rfl rfl (by kernel_rfl) (by kernel_rfl) (by kernel_rfl) (fun _ _ _ h => h) (by rfl) ?_ (by assumption) ?_; rotate_left; (intro w hSw; (try dsimp only at hSw); go_simp; (first | done | with_reducible rfl)); (try simp only [Act.put, List.setIfInBounds_toArray, List.set_cons_zero, List.set_cons_succ]))
  refine wpAnyH_done (by kernel_rfl) ?_ _
  have h3 : Ext V1 z3 := hHeld
  replace P1 := Lib.hid (P1.out.ext h3)
  replace EX := Lib.hid (EX.out.trans h3)
  replace O1 := Lib.hid O1
  have b1' := b1 z3 h3
  clear hHeld hy hv1
  go_wp2_with fail
  refine (eqCrossingS_same _ _ _ _ _ _ F1 (F0'.out.ext EX.out)).mono ?_
  rintro e z4 ⟨rfl, h⟩
  replace h3 : Ext V1 z4 := h3.trans h
  replace P1 := Lib.hid (P1.out.ext h)
  replace EX := Lib.hid (EX.out.trans h)
  replace O1 := Lib.hid (O1.out.ext h)
  clear h F1 b1'
  replace b1 : ∀ w', Ext z4 w' → w'.cell? ⟨y1.heap.size, 0, none⟩ = some (.slice (some ⟨C1, 0, none⟩) fs.length fs.length) := fun w' h => b1 w' (h3.trans h)
  replace f00 : ∀ w', Ext z4 w' → w'.cell? ⟨w.heap.size, 0, none⟩ = some (.slice a fs.length cap) := fun w' h => f00 w' (h3.trans h)
  replace f10 : ∀ w', Ext z4 w' → w'.cell? ⟨w.heap.size + 1, 0, none⟩ = some (.int .i64 p) := fun w' h => f10 w' (h3.trans h)
  replace f11 : ∀ w', Ext z4 w' → w'.cell? ⟨w.heap.size + 1, 1, none⟩ = some (.int .i64 q) := fun w' h => f11 w' (h3.trans h)
  replace f12 : ∀ w', Ext z4 w' → w'.cell? ⟨w.heap.size + 1, 2, none⟩ = some (.int .i64 u) := fun w' h => f12 w' (h3.trans h)
  replace f13 : ∀ w', Ext z4 w' → w'.cell? ⟨w.heap.size + 1, 3, none⟩ = some (.int .i64 v) := fun w' h => f13 w' (h3.trans h)
  clear h3
  go_upto_region 10 with fail
  refine wp_region_held_drew (S := (fun w' => Ext z4 w')) (by kernel_rfl) (by (try dsimp only); first | go_keep | exact (Ext.refl _).drew | exact Res.new2.drew | exact Res.new4.drew | exact ResB.drew (by assumption) | exact ResC.drew (by assumption) | assumption | exact Ext.drew (by assumption) | exact Res.drew (by assumption)) (fun hHeld => ?_)
  (refine Ord.takeH 0 47 (v := ?_) rfl rfl (by kernel_rfl) (by kernel_rfl) (by kernel_rfl) (fun _ _ _ h => h) (by rfl) ?_ (by assumption) ?_; rotate_left; (intro w hSw; (try dsimp only at hSw); go_simp; (first | done | with_reducible rfl)); (try simp only [Act.put, List.setIfInBounds_toArray, List.set_cons_zero, List.set_cons_succ]))
  (refine Ord.takeH 1 48 (v := ?_) rfl rfl (by kernel_rfl) (by kernel_rfl) (by kernel_rfl) (fun _ _ _ h => h) (by rfl) ?_ (by assumption) ?_; rotate_left; (intro w hSw; (try dsimp only at hSw); go_simp; (first | done | with_reducible rfl)); (try simp only [Act.put, List.setIfInBounds_toArray, List.set_cons_zero, List.set_cons_succ]))
  (refine wpAnyH_ready (rs := [2]) (by kernel_rfl) (by simp) ?_; refine AllReadyH.cons rfl (fun K hK => ?_) AllReadyH.nil; go_simp; (first | (go_at_call 11; refine (toTrack_any a cap fs _ (HF1.out.ext (hX.trans (X.out.trans (EX.out.trans (by first | assumption | exact (Ext.refl _).drew))))) HL1.out).mono ?_; rintro e w1 ⟨B1, rfl, -, Q1, hy⟩) | (go_at_call 15; refine (eqTrack_same _ _ _ _ _ _ ((P1.out.ext (by assumption)).fxs HM1.out) (Q1.fxs HM1.out)).mono ?_; rintro e z5 ⟨rfl, hy⟩)); go_wp2_with fail; (refine hK.out _ _ (by first | assumption | exact Ext.trans (by assumption) hy | exact Res.ext (by assumption) hy | exact ResB.ext (by assumption) hy | exact ResC.ext (by assumption) hy | (go_split_ands; (repeat' apply And.intro) <;> exact Ext.cellOf hy (by assumption))) (fun hHeld => ?_)); clear hK K; (try simp only [Act.put, List.setIfInBounds_toArray, List.set_cons_zero, List.set_cons_succ]))
  (refine wpAnyH_ready (rs := [3]) (by kernel_rfl) (by simp) ?_; refine AllReadyH.cons rfl (fun K hK => ?_) AllReadyH.nil; go_simp; (first | (go_at_call 11; refine (toTrack_any a cap fs _ (HF1.out.ext (hX.trans (X.out.trans (EX.out.trans (by first | assumption | exact (Ext.refl _).drew))))) HL1.out).mono ?_; rintro e w1 ⟨B1, rfl, -, Q1, hy⟩) | (go_at_call 15; refine (eqTrack_same _ _ _ _ _ _ ((P1.out.ext (by assumption)).fxs HM1.out) (Q1.fxs HM1.out)).mono ?_; rintro e z5 ⟨rfl, hy⟩)); go_wp2_with fail; (refine hK.out _ _ (by first | assumption | exact Ext.trans (by assumption) hy | exact Res.ext (by assumption) hy | exact ResB.ext (by assumption) hy | exact ResC.ext (by assumption) hy | (go_split_ands; (repeat' apply And.intro) <;> exact Ext.cellOf hy (by assumption))) (fun hHeld => ?_)); clear hK K; (try simp only [Act.put, List.setIfInBounds_toArray, List.set_cons_zero, List.set_cons_succ]))
  (refine Ord.takeH 4 51 (v := ?_) rfl rfl (by kernel_rfl) (by kernel_rfl) (by kernel_rfl) (fun _ _ _ h => h) (by rfl) ?_ (by assumption) ?_; rotate_left; (intro w hSw; (try dsimp only at hSw); go_simp; (first | done | with_reducible rfl)); (try simp only [Act.put, List.setIfInBounds_toArray, List.set_cons_zero, List.set_cons_succ]))
  refine wpAnyH_done (by kernel_rfl) ?_ _
  have h : Ext z4 z5 := hHeld
  have xt := b1 z5 h
  have t0 := f00 z5 h
  have t1 := f10 z5 h
  have t2 := f11 z5 h
  have t3 := f12 z5 h
  have t4 := f13 z5 h
  replace P1 := Lib.hid (P1.out.ext h)
  replace EX := Lib.hid (EX.out.trans h)
  replace O1 := Lib.hid (O1.out.ext h)
  clear h hHeld hy Q1 b1 f00 f10 f11 f12 f13 e00 e10 e11 e12 e13
  have zn : decide ((1 : Int) + 3 * (fs.length : Int) < 0) = false := decide_eq_false (by omega)
  go_wp2_with fail
  refine (markNew_any C1 _ y1.heap.size _ _ _ P1.out HL1.out (by decide) (by decide)).mono ?_
  rintro e z6 ⟨rfl, C, hC, h⟩
  have c1 : z2.heap.size ≤ C := by rcases hC with ⟨_, rfl⟩ | rfl <;> omega
  have c2 : C ≤ y1.heap.size := by
    rcases hC with ⟨h0, rfl⟩ | rfl
    · have := nC h0; omega
    · omega
  clear hC
  have hs2 := Ext.size X.out
  replace t0 := h.cellOf (by simp; omega) t0
  replace t1 := h.cellOf (by simp; omega) t1
  replace t2 := h.cellOf (by simp; omega) t2
  replace t3 := h.cellOf (by simp; omega) t3
  replace t4 := h.cellOf (by simp; omega) t4
  replace EX := Lib.hid (h.ext EX.out c1)
  replace O1 := Lib.hid (O1.out.chg h (O1.out.block (by omega)))
  clear h P1 xt
  obtain ⟨_, _, e1, F1⟩ := O1.out.cxs HP2.out
  cases e1
  go_wp2_with fail
  refine (eqCrossingS_same _ _ _ _ _ _ F1 (F0'.out.ext EX.out)).mono ?_
  rintro e z7 ⟨rfl, h⟩
  replace t0 := h.cellOf t0
  replace t1 := h.cellOf t1
  replace t2 := h.cellOf t2
  replace t3 := h.cellOf t3
  replace t4 := h.cellOf t4
  replace EX := Lib.hid (EX.out.trans h)
  replace O1 := Lib.hid (O1.out.ext h)
  clear h F1
  have zg : decide ((1 : Int) + 5 * (cs.length : Int) < 0) = false := decide_eq_false (by omega)
  go_wp2_with fail
  refine (markOwnC_any _ _ _ 1 _ O1.out HP3.out (by decide) (by decide)).mono ?_
  rintro e z8 ⟨rfl, HH, h⟩
  have hcell : ∀ (p : Addr) (x : Value), p.block < V1.heap.size → z7.cell? p = some x → z8.cell? p = some x := by
    intro p x hp hc
    rcases h with h | ⟨B, hB, _, h⟩
    · exact h.cellOf hc
    · exact h.cellOf (by omega) hc
  replace t0 := hcell _ _ (by simp; omega) t0
  replace t1 := hcell _ _ (by simp; omega) t1
  replace t2 := hcell _ _ (by simp; omega) t2
  replace t3 := hcell _ _ (by simp; omega) t3
  replace t4 := hcell _ _ (by simp; omega) t4
  replace EX := Lib.hid (h.ext EX.out (by omega))
  replace HH := Lib.hid HH
  clear h O1 hcell
  go_wp2_with fail
  refine (heldOwnC_any _ _ 1 _ HH.out HP3.out (by decide) (by decide)).mono ?_
  rintro e z9 ⟨rfl, rfl⟩
  have e00 : ∀ w', Ext z8 w' → w'.cell? ⟨w.heap.size, 0, none⟩ = some (.slice a fs.length cap) := fun w' h => h.cellOf t0
  have e10 : ∀ w', Ext z8 w' → w'.cell? ⟨w.heap.size + 1, 0, none⟩ = some (.int .i64 p) := fun w' h => h.cellOf t1
  have e11 : ∀ w', Ext z8 w' → w'.cell? ⟨w.heap.size + 1, 1, none⟩ = some (.int .i64 q) := fun w' h => h.cellOf t2
  have e12 : ∀ w', Ext z8 w' → w'.cell? ⟨w.heap.size + 1, 2, none⟩ = some (.int .i64 u) := fun w' h => h.cellOf t3
  have e13 : ∀ w', Ext z8 w' → w'.cell? ⟨w.heap.size + 1, 3, none⟩ = some (.int .i64 v) := fun w' h => h.cellOf t4
  clear t0 t1 t2 t3 t4
  have hr8 := Ext.refl z8
  go_upto_region 24 with fail
  refine wp_region_held_drew (S := (fun w' => Ext z8 w')) (by kernel_rfl) (by (try dsimp only); first | go_keep | exact (Ext.refl _).drew | exact Res.new2.drew | exact Res.new4.drew | exact ResB.drew (by assumption) | exact ResC.drew (by assumption) | assumption | exact Ext.drew (by assumption) | exact Res.drew (by assumption)) (fun hHeld => ?_)
  (refine Ord.takeH 0 80 (v := ?_) rfl rfl (by kernel_rfl) (by kernel_rfl) (by kernel_rfl) (fun _ _ _ h => h) (by rfl) ?_ (by assumption) ?_; rotate_left; (intro w hSw; (try dsimp only at hSw); go_simp; (first | done | with_reducible rfl)); (try simp only [Act.put, List.setIfInBounds_toArray, List.set_cons_zero, List.set_cons_succ]))
  (refine Ord.takeH 2 82 (v := ?_) rfl rfl (by kernel_rfl) (by kernel_rfl) (by kernel_rfl) (fun _ _ _ h => h) (by rfl) ?_ (by assumption) ?_; rotate_left; (intro w hSw; (try dsimp only at hSw); go_simp; (first | done | with_reducible rfl)); (try simp only [Act.put, List.setIfInBounds_toArray, List.set_cons_zero, List.set_cons_succ]))
  (refine wpAnyH_ready (rs := [1]) (by kernel_rfl) (by simp) ?_; refine AllReadyH.cons rfl (fun K hK => ?_) AllReadyH.nil; go_simp; (first | (go_at_call 11; refine (toTrack_any a cap fs _ (HF1.out.ext (hX.trans (X.out.trans (EX.out.trans (by first | assumption | exact (Ext.refl _).drew))))) HL1.out).mono ?_; rintro e w1 ⟨B1, rfl, -, Q1, hy⟩; have R1 := Q1.fxs HM1.out) | (go_at_call 12; refine (toLine_any _ _ _ _ _).mono ?_; rintro e w1 ⟨rfl, hy⟩; (try replace R1 := Fxs.ext R1 hy)) | (go_at_call 13; refine (KI.out _ _ _ R1).mono ?_; rintro e z10 ⟨v2, rfl, O2, hy⟩; obtain ⟨a2, cap2, rfl, F2⟩ := O2.cxs HP2.out; clear O2)); go_wp2_with fail; (refine hK.out _ _ (by first | assumption | exact Ext.trans (by assumption) hy | exact Res.ext (by assumption) hy | exact ResB.ext (by assumption) hy | exact ResC.ext (by assumption) hy | (go_split_ands; (repeat' apply And.intro) <;> exact Ext.cellOf hy (by assumption))) (fun hHeld => ?_)); clear hK K; (try simp only [Act.put, List.setIfInBounds_toArray, List.set_cons_zero, List.set_cons_succ]))
  (refine wpAnyH_ready (rs := [3]) (by kernel_rfl) (by simp) ?_; refine AllReadyH.cons rfl (fun K hK => ?_) AllReadyH.nil; go_simp; (first | (go_at_call 11; refine (toTrack_any a cap fs _ (HF1.out.ext (hX.trans (X.out.trans (EX.out.trans (by first | assumption | exact (Ext.refl _).drew))))) HL1.out).mono ?_; rintro e w1 ⟨B1, rfl, -, Q1, hy⟩; have R1 := Q1.fxs HM1.out) | (go_at_call 12; refine (toLine_any _ _ _ _ _).mono ?_; rintro e w1 ⟨rfl, hy⟩; (try replace R1 := Fxs.ext R1 hy)) | (go_at_call 13; refine (KI.out _ _ _ R1).mono ?_; rintro e z10 ⟨v2, rfl, O2, hy⟩; obtain ⟨a2, cap2, rfl, F2⟩ := O2.cxs HP2.out; clear O2)); go_wp2_with fail; (refine hK.out _ _ (by first | assumption | exact Ext.trans (by assumption) hy | exact Res.ext (by assumption) hy | exact ResB.ext (by assumption) hy | exact ResC.ext (by assumption) hy | (go_split_ands; (repeat' apply And.intro) <;> exact Ext.cellOf hy (by assumption))) (fun hHeld => ?_)); clear hK K; (try simp only [Act.put, List.setIfInBounds_toArray, List.set_cons_zero, List.set_cons_succ]))
  (refine wpAnyH_ready (rs := [4]) (by kernel_rfl) (by simp) ?_; refine AllReadyH.cons rfl (fun K hK => ?_) AllReadyH.nil; go_simp; (first | (go_at_call 11; refine (toTrack_any a cap fs _ (HF1.out.ext (hX.trans (X.out.trans (EX.out.trans (by first | assumption | exact (Ext.refl _).drew))))) HL1.out).mono ?_; rintro e w1 ⟨B1, rfl, -, Q1, hy⟩; have R1 := Q1.fxs HM1.out) | (go_at_call 12; refine (toLine_any _ _ _ _ _).mono ?_; rintro e w1 ⟨rfl, hy⟩; (try replace R1 := Fxs.ext R1 hy)) | (go_at_call 13; refine (KI.out _ _ _ R1).mono ?_; rintro e z10 ⟨v2, rfl, O2, hy⟩; obtain ⟨a2, cap2, rfl, F2⟩ := O2.cxs HP2.out; clear O2)); go_wp2_with fail; (refine hK.out _ _ (by first | assumption | exact Ext.trans (by assumption) hy | exact Res.ext (by assumption) hy | exact ResB.ext (by assumption) hy | exact ResC.ext (by assumption) hy | (go_split_ands; (repeat' apply And.intro) <;> exact Ext.cellOf hy (by assumption))) (fun hHeld => ?_)); clear hK K; (try simp only [Act.put, List.setIfInBounds_toArray, List.set_cons_zero, List.set_cons_succ]))
  (refine Ord.takeH 5 79 (v := ?_) rfl rfl (by kernel_rfl) (by kernel_rfl) (by kernel_rfl) (fun _ _ _ h => h) (by rfl) ?_ (by assumption) ?_; rotate_left; (intro w hSw; (try dsimp only at hSw); go_simp; (first | done | with_reducible rfl)); (try simp only [Act.put, List.setIfInBounds_toArray, List.set_cons_zero, List.set_cons_succ]))
  (refine Ord.takeH 6 85 (v := ?_) rfl rfl (by kernel_rfl) (by kernel_rfl) (by kernel_rfl) (fun _ _ _ h => h) (by rfl) ?_ (by assumption) ?_; rotate_left; (intro w hSw; (try dsimp only at hSw); go_simp; (first | done | with_reducible rfl)); (try simp only [Act.put, List.setIfInBounds_toArray, List.set_cons_zero, List.set_cons_succ]))
  (refine Ord.takeH 7 86 (v := ?_) rfl rfl (by kernel_rfl) (by kernel_rfl) (by kernel_rfl) (fun _ _ _ h => h) (by rfl) ?_ (by assumption) ?_; rotate_left; (intro w hSw; (try dsimp only at hSw); go_simp; (first | done | with_reducible rfl)); (try simp only [Act.put, List.setIfInBounds_toArray, List.set_cons_zero, List.set_cons_succ]))
  (refine Ord.takeH 8 14 (v := ?_) rfl rfl (by kernel_rfl) (by kernel_rfl) (by kernel_rfl) (fun _ _ _ h => h) (by rfl) ?_ (by assumption) ?_; rotate_left; (intro w hSw; (try dsimp only at hSw); go_simp; (first | done | with_reducible rfl)); (try simp only [Act.put, List.setIfInBounds_toArray, List.set_cons_zero, List.set_cons_succ]))
  (refine Ord.takeH 9 15 (v := ?_) rfl rfl (by kernel_rfl) (by kernel_rfl) (by kernel_rfl) (fun _ _ _ h => h) (by rfl) ?_ (by assumption) ?_; rotate_left; (intro w hSw; (try dsimp only at hSw); go_simp; (first | done | with_reducible rfl)); (try simp only [Act.put, List.setIfInBounds_toArray, List.set_cons_zero, List.set_cons_succ]))
  refine wpAnyH_done (by kernel_rfl) ?_ _
  have h : Ext z8 z10 := hHeld
  replace EX := Lib.hid (EX.out.trans h)
  replace HH := Lib.hid (HH.out.ext h)
  clear h hHeld hy e00 e10 e11 e12 e13 R1 Q1 hr8
  go_wp2_with fail
  refine (eqCrossingS_same _ _ _ _ _ _ F2 (F0'.out.ext EX.out)).mono ?_
  rintro e z11 ⟨rfl, h⟩
  replace EX := Lib.hid (EX.out.trans h)
  replace HH := Lib.hid (HH.out.ext h)
  clear h F2
  go_wp2_with fail
  refine (heldOwnC_any _ _ 1 _ HH.out HP3.out (by decide) (by decide)).mono ?_
  rintro e z12 ⟨rfl, rfl⟩
  go_wp2
  go_ret
  exact ⟨rfl, hX.trans (X.out.trans EX.out)⟩

theorem own : ownKnob Try.prog.godebug = none := by kernel_rfl
theorem laidOut : laidOutB Try.prog = true := by kernel_rfl

set_option maxRecDepth 100000 in
theorem lifted (os : Os) (started : os.Started) (H : Type) (enc : TypeId × Value → H) :
    ReturnsInHanded {} Try.checked os 3 .any (Rows.fnExactCrossingsOfSpec.pre6 enc Try.prog Try.f3 Rows.fnExactCrossingsOfRow.domain false) (Rows.fnExactCrossingsOfSpec.post enc Try.prog Try.f3 false true false false) := by
  refine returnsInHanded_of_change (C := Try.checked) own started (by kernel_rfl) Try.func3
    (ChangeSpec.witness6 (enc := enc) (C := Try.checked) false ⟨#[], #[.agg #[.slice none 0 0], .agg #[.int .i64 0, .int .i64 0, .int .i64 0, .int .i64 0]], []⟩ 8 (by kernel_rfl) (by kernel_rfl) (by kernel_rfl) (by kernel_rfl)) ?_
  intro W base args ds gs before hval0 hW hcnd _
  have hval : ∀ (j : Nat) t v, Try.f3.params[j]? = some t → args[j]? = some v → Value.okWide Try.prog W .any base t v := hval0
  have hW' := hW
  obtain ⟨p, q, hA0, hV, rfl, hfz, hnd⟩ := hW
  have hA : DataW.TrodAll enc Try.prog W 0 (fun _ => true) true Try.f3.params.toList args.toList ds p := hA0
  rw [Try.params3] at hA hval
  obtain ⟨v0, vs0, d0, ds0, p0, q0, hargs, rfl, rfl, h0, r0⟩ := trodAll_cons hA
  obtain ⟨v1, vs1, d1, ds1, p1, q1, rfl, rfl, rfl, h1, r1⟩ := trodAll_cons r0
  obtain ⟨rfl, rfl, rfl⟩ := trodAll_nil r1
  obtain rfl : args = #[v0, v1] := by cases args; simp_all
  obtain ⟨rfl, rfl⟩ := trodVars_none hV
  have k0 := h0
  have lt0 : ∀ x ∈ p0, x.block < W.heap.size := by obtain ⟨m, hm⟩ := k0; exact DataW.trod_lt m _ _ _ hm
  obtain ⟨a0, cap0, fs0, rfl, w0⟩ := Trk.open_track Try.underlying24 (by kernel_rfl) (by kernel_rfl) Try.underlying22 Try.underlying117 (by kernel_rfl) (by kernel_rfl) Try.underlying2 Try.underlying2 Try.underlying2 (hval 0 24 v0 rfl rfl) h0
  have k1 := h1
  have lt1 : ∀ x ∈ p1, x.block < W.heap.size := by obtain ⟨m, hm⟩ := k1; exact DataW.trod_lt m _ _ _ hm
  obtain ⟨a1, b1, c1, e1, rfl⟩ := Opn.open_seg Try.underlying28 Try.underlying26 Try.underlying26 (by kernel_rfl) rfl rfl (by kernel_rfl) (by kernel_rfl) (by kernel_rfl) (by kernel_rfl) Try.underlying2 Try.underlying2 Try.underlying2 Try.underlying2 (hval 1 28 v1 rfl rfl) h1
  clear hA0 hval0
  refine (walk a0 cap0 fs0 a1 b1 c1 e1 W w0).mono fun e W' ⟨he, hx⟩ => ?_
  have bel := hx.below
  subst he
  exact ⟨_, rfl, _, _, _, [], _, [], hW', trodAll_mk1 (shut_bool Try.underlying4 _), (trodAll_cons_mk (Below.trod laidOut (by kernel_rfl) (of_decide_eq_true (by kernel_rfl)) k0 bel lt0) (trodAll_cons_mk (Below.trod laidOut (by kernel_rfl) (of_decide_eq_true (by kernel_rfl)) k1 bel lt1) trodAll_mk0)), rfl, bel.frame _, fun h => by cases h⟩

theorem proved : Rows.FnExactCrossingsOfSaid :=
  OpenClaim.holds_of_wide 3 Try.f3 rfl rfl rfl rfl rfl rfl rfl ⟨rfl, rfl, rfl, rfl, rfl⟩ rfl rfl rfl rfl rfl (by kernel_rfl) Try.func3 (by kernel_rfl)
    (of_decide_eq_true (by kernel_rfl)) (by unfold Func.isWrapper; first | (rw [if_pos (by decide +kernel)]; kernel_rfl) | (rw [if_neg (by decide +kernel)]; exact ⟨rfl, rfl⟩))
    (fun os started H enc _ => lifted os started H enc)

end Go.Proofs.Ytaliopnhdcdajaa.fnExactCrossingsOf
