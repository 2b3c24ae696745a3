import Derived.Test.YtpdnefodbichkaaRdl4
import Derived.Test.YtpdnefodbichkaaOpnC
import Derived.ChangeOld
import Derived.Below
import Derived.Lib.SmallJoins
import Derived.ChangeMaps5
namespace Go.Proofs.Ytpdnefodbichkaa.fnExactRoundingLine
open Go.ChangeShapes Go.WideShapes Go.ChangeAt Go.RowKit
open Go.ChangeMaps (open_string shut_string)
open Go.Proofs.Ytpdnefodbichkaa.Kit Go.Proofs.Ytpdnefodbichkaa.Pts Go.Proofs.Ytpdnefodbichkaa.Seg Go.Proofs.Ytpdnefodbichkaa.Crs
set_option linter.unusedVariables false
set_option linter.unusedSimpArgs false
set_option maxRecDepth 100000 in
set_option maxHeartbeats 4000000 in
theorem walk (l k : L4) (a : Option Addr) (cap : Nat) (ms : List M5) (n : Int) (w : World) (hf : Mks w a ms) : Calls Try.prog 6 #[CV l k (.slice a ms.length cap), .int .i64 n] w fun e w' => e = .returned (.bool true) ∧ Ext w w' := by
  have HM := Lib.hid hf.1
  obtain ⟨W0, hW0⟩ : ∃ W0, W0 = w.alloc (.cells (cellsC l k (.slice a ms.length cap)).toArray 54) := ⟨_, rfl⟩
  have HW := Lib.hid (show Ext w W0 from hW0 ▸ (Ext.refl w).alloc _)
  have BB := Lib.hid (show Box W0 w.heap.size (cellsC l k (.slice a ms.length cap)) from hW0 ▸ Box.new rfl)
  have HF := Lib.hid (hf.ext HW.out)
  clear hf
  have PS := Lib.hid (fun w (h : Mks w a ms) => szCourse_any l k a cap ms 1048576 w h (by decide) (by decide))
  by_cases hl : szR 1048576 ms < 0
  · rw [if_pos hl] at PS
    go_enter Try.func6, Try.ntmps6
    go_wp2_with fail
    rw [← hW0]
    clear hW0
    refine (PS.out _ HF.out).mono ?_
    rintro e w1 ⟨rfl, h1⟩
    go_wp2
    go_ret
    exact ⟨rfl, HW.out.trans h1⟩
  · rw [if_neg hl] at PS
    have HL := Lib.hid (szR_yes hl (by decide) (by decide)).1
    obtain ⟨S, hS⟩ : ∃ S, S = szR 1048576 ms := ⟨_, rfl⟩
    rw [← hS] at PS hl
    clear hS
    have hl2 : decide (S < 0) = false := decide_eq_false hl
    have KS := Lib.hid (fun (a : Option Addr) (cap : Nat) (w : World) (hf : Mks w a ms) => roundingLine_spec l k a cap ms n w hf)
    have KI := Lib.hid (fun (a : Option Addr) (cap : Nat) (w : World) (hf : Mks w a ms) => roundingLine_impl l k a cap ms n w hf)
    obtain ⟨ck, hck⟩ : ∃ ck, ck = rnC l k ms n := ⟨_, rfl⟩
    obtain ⟨N, hN⟩ : ∃ N, N = rnL l k ms n := ⟨_, rfl⟩
    rw [← hck, ← hN] at KS KI
    clear hck hN
    go_enter Try.func6, Try.ntmps6
    go_wp2_with fail
    rw [← hW0]
    clear hW0
    refine (PS.out _ HF.out).mono ?_
    rintro e w1 ⟨rfl, h⟩
    have X := Lib.hid h
    clear h
    obtain ⟨⟨p0, p1, p2, p3, p4, p5, p6, p7, p8⟩, _⟩ := Box.nine (BB.out.ext X.out)
    go_wp2_with fail
    refine (toCourse_any _ _ _ _ _ _ (HF.out.ext X.out) HL.out).mono ?_
    rintro e w2 ⟨B2, rfl, -, O2, h⟩
    replace X := Lib.hid (X.out.trans h)
    have P2 := Lib.hid O2
    clear h O2 p0 p1 p2 p3 p4 p5 p6 p7 p8
    go_wp2_with fail
    refine (KS.out _ _ _ (P2.out.mks HM.out)).mono ?_
    rintro e w3 ⟨rfl, h⟩
    replace X := Lib.hid (X.out.trans h)
    clear h P2
    have p0 : ∀ A, (w3.alloc A).cell? ⟨w.heap.size, 0, none⟩ = some (.int .i64 l.a) := fun A => ((Ext.refl w3).alloc A).cellOf (BB.out.ext X.out 0 _ rfl).1
    have p1 : ∀ A, (w3.alloc A).cell? ⟨w.heap.size, 1, none⟩ = some (.int .i64 l.b) := fun A => ((Ext.refl w3).alloc A).cellOf (BB.out.ext X.out 1 _ rfl).1
    have p2 : ∀ A, (w3.alloc A).cell? ⟨w.heap.size, 2, none⟩ = some (.int .i64 l.c) := fun A => ((Ext.refl w3).alloc A).cellOf (BB.out.ext X.out 2 _ rfl).1
    have p3 : ∀ A, (w3.alloc A).cell? ⟨w.heap.size, 3, none⟩ = some (.int .i64 l.d) := fun A => ((Ext.refl w3).alloc A).cellOf (BB.out.ext X.out 3 _ rfl).1
    have p4 : ∀ A, (w3.alloc A).cell? ⟨w.heap.size, 4, none⟩ = some (.int .i64 k.a) := fun A => ((Ext.refl w3).alloc A).cellOf (BB.out.ext X.out 4 _ rfl).1
    have p5 : ∀ A, (w3.alloc A).cell? ⟨w.heap.size, 5, none⟩ = some (.int .i64 k.b) := fun A => ((Ext.refl w3).alloc A).cellOf (BB.out.ext X.out 5 _ rfl).1
    have p6 : ∀ A, (w3.alloc A).cell? ⟨w.heap.size, 6, none⟩ = some (.int .i64 k.c) := fun A => ((Ext.refl w3).alloc A).cellOf (BB.out.ext X.out 6 _ rfl).1
    have p7 : ∀ A, (w3.alloc A).cell? ⟨w.heap.size, 7, none⟩ = some (.int .i64 k.d) := fun A => ((Ext.refl w3).alloc A).cellOf (BB.out.ext X.out 7 _ rfl).1
    have p8 : ∀ A, (w3.alloc A).cell? ⟨w.heap.size, 8, none⟩ = some (.slice a ms.length cap) := fun A => ((Ext.refl w3).alloc A).cellOf (BB.out.ext X.out 8 _ rfl).1
    go_wp2_with fail
    refine (toCourse_any _ _ _ _ _ _ (HF.out.ext (X.out.alloc _)) HL.out).mono ?_
    rintro e w4 ⟨B4, rfl, l4, O4, h⟩
    have R3 := Lib.hid ((Box.new (w := w3) (vs := cellsL N) (t := 40) rfl).ext h)
    replace X := Lib.hid (X.out.trans (((Ext.refl w3).alloc _).trans h))
    have P4 := Lib.hid O4
    clear h O4 p0 p1 p2 p3 p4 p5 p6 p7 p8
    go_wp2_with fail
    refine (KI.out _ _ _ ((P4.out.mks HM.out).ext (by repeat (first | exact Ext.refl _ | assumption | apply Ext.alloc | apply Ext.drew | (refine Ext.trans ?_ (by assumption)) | (refine Ext.setNew ?_ (by simp <;> omega) _))))).mono ?_
    rintro e w5 ⟨rfl, h⟩
    have BX := Lib.hid ((Box.new (w := w4) (vs := cellsC l k (.slice (some ⟨B4, 0, none⟩) ms.length ms.length)) (t := 43) rfl).ext h)
    replace h := ((Ext.refl w4).alloc _).trans h
    replace P4 := Lib.hid (P4.out.ext h)
    replace R3 := Lib.hid (R3.out.ext h)
    replace X := Lib.hid (X.out.trans h)
    clear h
    have r0 : ∀ A, (w5.alloc A).cell? ⟨w3.heap.size, 0, none⟩ = some (.int .i64 N.a) := fun A => ((Ext.refl w5).alloc A).cellOf (R3.out 0 _ rfl).1
    have r1 : ∀ A, (w5.alloc A).cell? ⟨w3.heap.size, 1, none⟩ = some (.int .i64 N.b) := fun A => ((Ext.refl w5).alloc A).cellOf (R3.out 1 _ rfl).1
    have r2 : ∀ A, (w5.alloc A).cell? ⟨w3.heap.size, 2, none⟩ = some (.int .i64 N.c) := fun A => ((Ext.refl w5).alloc A).cellOf (R3.out 2 _ rfl).1
    have r3 : ∀ A, (w5.alloc A).cell? ⟨w3.heap.size, 3, none⟩ = some (.int .i64 N.d) := fun A => ((Ext.refl w5).alloc A).cellOf (R3.out 3 _ rfl).1
    go_wp2_with fail
    refine (eqLine_same N _).mono ?_
    rintro e w6 ⟨rfl, h⟩
    replace h := ((Ext.refl w5).alloc _).trans h
    replace P4 := Lib.hid (P4.out.ext h)
    replace BX := Lib.hid (BX.out.ext h)
    replace X := Lib.hid (X.out.trans h)
    clear h r0 r1 r2 r3 R3
    have B6 := Lib.hid (BB.out.ext X.out)
    have e10 : ∀ w', Ext w6 w' → w'.cell? ⟨w.heap.size, 0, none⟩ = some (.int .i64 l.a) := fun w' h => h.cellOf (B6.out 0 _ rfl).1
    have e11 : ∀ w', Ext w6 w' → w'.cell? ⟨w.heap.size, 1, none⟩ = some (.int .i64 l.b) := fun w' h => h.cellOf (B6.out 1 _ rfl).1
    have e12 : ∀ w', Ext w6 w' → w'.cell? ⟨w.heap.size, 2, none⟩ = some (.int .i64 l.c) := fun w' h => h.cellOf (B6.out 2 _ rfl).1
    have e13 : ∀ w', Ext w6 w' → w'.cell? ⟨w.heap.size, 3, none⟩ = some (.int .i64 l.d) := fun w' h => h.cellOf (B6.out 3 _ rfl).1
    have e14 : ∀ w', Ext w6 w' → w'.cell? ⟨w.heap.size, 4, none⟩ = some (.int .i64 k.a) := fun w' h => h.cellOf (B6.out 4 _ rfl).1
    have e15 : ∀ w', Ext w6 w' → w'.cell? ⟨w.heap.size, 5, none⟩ = some (.int .i64 k.b) := fun w' h => h.cellOf (B6.out 5 _ rfl).1
    have e16 : ∀ w', Ext w6 w' → w'.cell? ⟨w.heap.size, 6, none⟩ = some (.int .i64 k.c) := fun w' h => h.cellOf (B6.out 6 _ rfl).1
    have e17 : ∀ w', Ext w6 w' → w'.cell? ⟨w.heap.size, 7, none⟩ = some (.int .i64 k.d) := fun w' h => h.cellOf (B6.out 7 _ rfl).1
    have e18 : ∀ w', Ext w6 w' → w'.cell? ⟨w.heap.size, 8, none⟩ = some (.slice a ms.length cap) := fun w' h => h.cellOf (B6.out 8 _ rfl).1
    have f10 : ∀ w', Ext w6 w' → w'.cell? ⟨w4.heap.size, 0, none⟩ = some (.int .i64 l.a) := fun w' h => h.cellOf (BX.out 0 _ rfl).1
    have f11 : ∀ w', Ext w6 w' → w'.cell? ⟨w4.heap.size, 1, none⟩ = some (.int .i64 l.b) := fun w' h => h.cellOf (BX.out 1 _ rfl).1
    have f12 : ∀ w', Ext w6 w' → w'.cell? ⟨w4.heap.size, 2, none⟩ = some (.int .i64 l.c) := fun w' h => h.cellOf (BX.out 2 _ rfl).1
    have f13 : ∀ w', Ext w6 w' → w'.cell? ⟨w4.heap.size, 3, none⟩ = some (.int .i64 l.d) := fun w' h => h.cellOf (BX.out 3 _ rfl).1
    have f14 : ∀ w', Ext w6 w' → w'.cell? ⟨w4.heap.size, 4, none⟩ = some (.int .i64 k.a) := fun w' h => h.cellOf (BX.out 4 _ rfl).1
    have f15 : ∀ w', Ext w6 w' → w'.cell? ⟨w4.heap.size, 5, none⟩ = some (.int .i64 k.b) := fun w' h => h.cellOf (BX.out 5 _ rfl).1
    have f16 : ∀ w', Ext w6 w' → w'.cell? ⟨w4.heap.size, 6, none⟩ = some (.int .i64 k.c) := fun w' h => h.cellOf (BX.out 6 _ rfl).1
    have f17 : ∀ w', Ext w6 w' → w'.cell? ⟨w4.heap.size, 7, none⟩ = some (.int .i64 k.d) := fun w' h => h.cellOf (BX.out 7 _ rfl).1
    have f18 : ∀ w', Ext w6 w' → w'.cell? ⟨w4.heap.size, 8, none⟩ = some (.slice (some ⟨B4, 0, none⟩) ms.length ms.length) := fun w' h => h.cellOf (BX.out 8 _ rfl).1
    go_wp2_with fail
    refine wp_region_held_drew (S := (fun w' => Ext w6 w')) (by kernel_rfl) (by (try dsimp only); first | go_keep | exact (Ext.refl _).drew | exact Res.new2.drew | exact Res.new4.drew | exact ResB.drew (by assumption) | exact ResC.drew (by assumption) | assumption | exact Ext.drew (by assumption) | exact Res.drew (by assumption)) (fun hHeld => ?_)
    refine Ord.K 0 40 ?_
    refine Ord.K 1 41 ?_
    (refine wpAnyH_ready (rs := [2]) (by kernel_rfl) (by simp) ?_; refine AllReadyH.cons rfl (fun K hK => ?_) AllReadyH.nil; go_simp; (first | (go_at_call 19; refine (toCourse_any _ _ _ _ _ _ (HF.out.ext (X.out.trans (by first | assumption | exact (Ext.refl _).drew))) HL.out).mono ?_; rintro e w8 ⟨B8, rfl, -, O8, hy⟩) | (go_at_call 21; refine (eqCourse_same _ _ _ _ _ _ _ _ ((P4.out.ext (by assumption)).mks HM.out) (O8.mks HM.out)).mono ?_; rintro e w7 ⟨rfl, hy⟩)); go_wp2_with fail; (refine hK.out _ _ (by first | assumption | exact Ext.trans (by assumption) hy | exact Res.ext (by assumption) hy | exact ResB.ext (by assumption) hy | exact ResC.ext (by assumption) hy | (go_split_ands; (repeat' apply And.intro) <;> exact Ext.cellOf hy (by assumption))) (fun hHeld => ?_)); clear hK K; (try simp only [Act.put, Ord.a, Ord.b, Ord.c]))
    (refine wpAnyH_ready (rs := [3]) (by kernel_rfl) (by simp) ?_; refine AllReadyH.cons rfl (fun K hK => ?_) AllReadyH.nil; go_simp; (first | (go_at_call 19; refine (toCourse_any _ _ _ _ _ _ (HF.out.ext (X.out.trans (by first | assumption | exact (Ext.refl _).drew))) HL.out).mono ?_; rintro e w8 ⟨B8, rfl, -, O8, hy⟩) | (go_at_call 21; refine (eqCourse_same _ _ _ _ _ _ _ _ ((P4.out.ext (by assumption)).mks HM.out) (O8.mks HM.out)).mono ?_; rintro e w7 ⟨rfl, hy⟩)); go_wp2_with fail; (refine hK.out _ _ (by first | assumption | exact Ext.trans (by assumption) hy | exact Res.ext (by assumption) hy | exact ResB.ext (by assumption) hy | exact ResC.ext (by assumption) hy | (go_split_ands; (repeat' apply And.intro) <;> exact Ext.cellOf hy (by assumption))) (fun hHeld => ?_)); clear hK K; (try simp only [Act.put, Ord.a, Ord.b, Ord.c]))
    refine Ord.K 4 44 ?_
    refine wpAnyH_done (by kernel_rfl) ?_ _
    go_wp2
    go_ret
    exact ⟨rfl, HW.out.trans (X.out.trans hHeld)⟩
end Go.Proofs.Ytpdnefodbichkaa.fnExactRoundingLine
