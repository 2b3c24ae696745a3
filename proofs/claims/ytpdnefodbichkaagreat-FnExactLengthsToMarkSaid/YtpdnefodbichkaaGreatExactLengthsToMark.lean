import Derived.Test.YtpdnefodbichkaaGreatZon6
import Derived.Test.YtpdnefodbichkaaGreatMtx
import Derived.Test.YtpdnefodbichkaaGreatMMark
import Derived.Test.YtpdnefodbichkaaGreatOpnC
import Derived.Test.YtpdnefodbichkaaGreatOpnT
import Derived.ChangeOld
import Derived.Below
import Derived.Lib.SmallJoins
namespace Go.Proofs.YtpdnefodbichkaaGreat.fnExactLengthsToMark
open Go.ChangeShapes Go.WideShapes Go.ChangeAt Go.RowKit
open Go.Proofs.YtpdnefodbichkaaGreat.Kit Go.Proofs.YtpdnefodbichkaaGreat.Pts Go.Proofs.YtpdnefodbichkaaGreat.Seg Go.Proofs.YtpdnefodbichkaaGreat.Crs
open Go.Proofs.YtpdnefodbichkaaGreat.Trk (F3 Fxs Tr trB szL_neg szL_pos szTrack_any toTrack_any eqTrack_same)
set_option linter.unusedVariables false
set_option linter.unusedSimpArgs false
theorem szR_le {m : Int} {ms : List M5} (hm : 0 ≤ m) : szR m ms ≤ m := by
  unfold szR
  split
  · omega
  · have := szT_le (m - ms.length) ms ms.length; omega
theorem markTrackC (B cap b : Nat) (fs : List F3) (q : Int) (w : World) (h : Trk.Own w B fs) (hn : fs.length ≤ 1048576) (k0 : 0 ≤ q) (k1 : q ≤ 10000000) :
    Calls Tryz.prog 33 #[Tr (.slice (some ⟨B, 0, none⟩) fs.length cap), .int .i64 q] w fun e w' => e = .returned (.int .i64 (q + 3 * fs.length)) ∧ ∃ C, ((0 < fs.length ∧ C = B) ∨ C = b) ∧ Chg C w w' := by
  rcases Nat.eq_zero_or_pos fs.length with h0 | h0
  · rw [h0]
    exact (Trk.markTrack_zero _ _ q w).mono fun e w' ⟨he, hx⟩ => ⟨by simpa using he, b, .inr rfl, Chg.of_ext hx⟩
  · exact (Trk.markTrack_any B cap _ q w h.room hn k0 k1).mono fun e w' ⟨he, _, _, hc⟩ => ⟨he, B, .inl ⟨h0, rfl⟩, hc⟩
set_option maxRecDepth 100000 in
set_option maxHeartbeats 8000000 in
theorem walk (l k : L4) (a : Option Addr) (cap : Nat) (ms : List M5) (n : Int) (a2 : Option Addr) (cap2 : Nat) (fs : List F3) (t t2 : Int) (w : World) (hf : Mks w a ms) (ht : Fxs w a2 fs) :
    Calls Tryz.prog 11 #[CV l k (.slice a ms.length cap), .int .i64 n, Tr (.slice a2 fs.length cap2), .int .i64 t, .int .i64 t2] w fun e w' => e = .returned (.bool true) ∧ Ext w w' := by
  have HM := Lib.hid hf.1
  have HM2 := Lib.hid ht.1
  obtain ⟨W0, hW0⟩ : ∃ W0, W0 = (w.alloc (.cells (cellsC l k (.slice a ms.length cap)).toArray 53)).alloc (.cells #[.slice a2 fs.length cap2] 56) := ⟨_, rfl⟩
  have HW := Lib.hid (show Ext w W0 from hW0 ▸ ((Ext.refl w).alloc _).alloc _)
  have BB := Lib.hid (show Box W0 w.heap.size (cellsC l k (.slice a ms.length cap)) from hW0 ▸ (Box.new rfl).alloc _)
  have CT := Lib.hid (show W0.cell? ⟨w.heap.size + 1, 0, none⟩ = some (.slice a2 fs.length cap2) from hW0 ▸ boxed 0 rfl (by simp))
  have HF := Lib.hid (hf.ext HW.out)
  have HT := Lib.hid (ht.ext HW.out)
  clear hf ht
  have PS := Lib.hid (fun w (h : Mks w a ms) => szCourse_any l k a cap ms 1048576 w h (by decide) (by decide))
  by_cases hl : szR 1048576 ms < 0
  · rw [if_pos hl] at PS
    go_enter Tryz.func11, Tryz.ntmps11
    go_wp2_with fail
    rw [← hW0]
    clear hW0
    refine (PS.out _ HF.out).mono ?_
    rintro e w1 ⟨rfl, h1⟩
    go_wp2
    go_ret
    exact ⟨rfl, HW.out.trans h1⟩
  rw [if_neg hl] at PS
  have HL := Lib.hid (szR_yes hl (by decide) (by decide)).1
  have S1 := szR_le (m := 1048576) (ms := ms) (by decide)
  obtain ⟨S, hS⟩ : ∃ S, S = szR 1048576 ms := ⟨_, rfl⟩
  rw [← hS] at PS hl S1
  clear hS
  have hl2 : decide (S < 0) = false := decide_eq_false hl
  by_cases hl3 : S - fs.length < 0
  · have HSN := Lib.hid (szL_neg hl3)
    go_enter Tryz.func11, Tryz.ntmps11
    go_wp2_with fail
    rw [← hW0]
    clear hW0
    refine (PS.out _ HF.out).mono ?_
    rintro e w1 ⟨rfl, h1⟩
    have c9 := h1.cellOf CT.out
    go_wp2_with fail
    refine (szTrack_any a2 fs.length cap2 S _ HM2.out (by omega) S1).mono ?_
    rw [HSN.out]
    rintro e w2 ⟨rfl, h2⟩
    go_wp2
    go_ret
    exact ⟨rfl, HW.out.trans (h1.trans h2)⟩
  · have HSP := Lib.hid (szL_pos hl3)
    have hl4 : decide (S - (fs.length : Int) < 0) = false := decide_eq_false hl3
    have HL2 := Lib.hid (show fs.length ≤ 1048576 by omega)
    have KS := Lib.hid (fun (a : Option Addr) (cap : Nat) (a2 : Option Addr) (cap2 : Nat) (w : World) (hf : Mks w a ms) (ht : Fxs w a2 fs) => show Calls Tryz.prog 44 #[CV l k (.slice a ms.length cap), .int .i64 n, Tr (.slice a2 fs.length cap2), .int .i64 t, .int .i64 t2] w (fun e w' => e = .returned (.tuple #[.int .i64 (lmV l k ms fs n t t2), .int .i64 (lmC l k ms fs n t t2)]) ∧ Ext w w') from lengthsToMark_spec l k a cap ms n a2 cap2 fs t t2 w hf ht)
    have KI := Lib.hid (fun (a : Option Addr) (cap : Nat) (a2 : Option Addr) (cap2 : Nat) (w : World) (hf : Mks w a ms) (ht : Fxs w a2 fs) (hcap : fs.length ≤ cap2) => show Calls Tryz.prog 45 #[CV l k (.slice a ms.length cap), .int .i64 n, Tr (.slice a2 fs.length cap2), .int .i64 t, .int .i64 t2] w (fun e w' => e = .returned (.tuple #[.int .i64 (lmV l k ms fs n t t2), .int .i64 (lmC l k ms fs n t t2)]) ∧ Ext w w') from lengthsToMark_impl l k a cap ms n a2 cap2 fs t t2 w hf ht hcap)
    obtain ⟨ck, hck⟩ : ∃ ck, ck = lmC l k ms fs n t t2 := ⟨_, rfl⟩
    obtain ⟨x0, hx0⟩ : ∃ x0, x0 = lmV l k ms fs n t t2 := ⟨_, rfl⟩
    rw [← hck, ← hx0] at KS KI
    clear hck hx0
    go_enter Tryz.func11, Tryz.ntmps11
    go_wp2_with fail
    rw [← hW0]
    clear hW0
    refine (PS.out _ HF.out).mono ?_
    rintro e w1 ⟨rfl, h1⟩
    have c9 := h1.cellOf CT.out
    go_wp2_with fail
    refine (szTrack_any a2 fs.length cap2 S _ HM2.out (by omega) S1).mono ?_
    rw [HSP.out]
    rintro e w2 ⟨rfl, h2⟩
    have X2 := Lib.hid (h1.trans h2)
    clear h1 h2 c9
    have B2 := Lib.hid (BB.out.ext X2.out)
    have e0 : ∀ w', Ext w2 w' → w'.cell? ⟨w.heap.size, 0, none⟩ = some (.int .i64 l.a) := fun w' h => h.cellOf (B2.out 0 _ rfl).1
    have e1 : ∀ w', Ext w2 w' → w'.cell? ⟨w.heap.size, 1, none⟩ = some (.int .i64 l.b) := fun w' h => h.cellOf (B2.out 1 _ rfl).1
    have e2 : ∀ w', Ext w2 w' → w'.cell? ⟨w.heap.size, 2, none⟩ = some (.int .i64 l.c) := fun w' h => h.cellOf (B2.out 2 _ rfl).1
    have e3 : ∀ w', Ext w2 w' → w'.cell? ⟨w.heap.size, 3, none⟩ = some (.int .i64 l.d) := fun w' h => h.cellOf (B2.out 3 _ rfl).1
    have e4 : ∀ w', Ext w2 w' → w'.cell? ⟨w.heap.size, 4, none⟩ = some (.int .i64 k.a) := fun w' h => h.cellOf (B2.out 4 _ rfl).1
    have e5 : ∀ w', Ext w2 w' → w'.cell? ⟨w.heap.size, 5, none⟩ = some (.int .i64 k.b) := fun w' h => h.cellOf (B2.out 5 _ rfl).1
    have e6 : ∀ w', Ext w2 w' → w'.cell? ⟨w.heap.size, 6, none⟩ = some (.int .i64 k.c) := fun w' h => h.cellOf (B2.out 6 _ rfl).1
    have e7 : ∀ w', Ext w2 w' → w'.cell? ⟨w.heap.size, 7, none⟩ = some (.int .i64 k.d) := fun w' h => h.cellOf (B2.out 7 _ rfl).1
    have e8 : ∀ w', Ext w2 w' → w'.cell? ⟨w.heap.size, 8, none⟩ = some (.slice a ms.length cap) := fun w' h => h.cellOf (B2.out 8 _ rfl).1
    have d1 : ∀ w', Ext w2 w' → w'.cell? ⟨w.heap.size + 1, 0, none⟩ = some (.slice a2 fs.length cap2) := fun w' h => h.cellOf (X2.out.cellOf CT.out)
    go_upto_region 8 with fail
    refine wp_region_held_drew (S := (fun w' => Ext w2 w')) (by kernel_rfl) (by (try dsimp only); first | go_keep | exact (Ext.refl _).drew | exact Res.new2.drew | exact Res.new4.drew | exact ResB.drew (by assumption) | exact ResC.drew (by assumption) | assumption | exact Ext.drew (by assumption) | exact Res.drew (by assumption)) (fun hHeld => ?_)
    refine Ord.K 0 29 ?_
    refine Ord.K 2 31 ?_
    refine Ord.K 3 32 ?_
    refine Ord.K 5 34 ?_
    refine Ord.K 6 35 ?_
    (refine wpAnyH_ready (rs := [1]) (by kernel_rfl) (by simp) ?_; refine AllReadyH.cons rfl (fun K hK => ?_) AllReadyH.nil; go_simp; (first | (go_at_call 27; refine (toCourse_any _ _ _ _ _ _ (HF.out.ext (X2.out.trans (by first | assumption | exact (Ext.refl _).drew))) HL.out).mono ?_; rintro e w3 ⟨B3, rfl, -, O3, hy⟩) | (go_at_call 28; refine (toTrack_any _ _ _ _ (HT.out.ext (X2.out.trans (by assumption))) HL2.out).mono ?_; rintro e w4 ⟨B4, rfl, -, O4, hy⟩; (replace O3 := O3.ext hy)) | (go_at_call 44; refine (KS.out _ _ _ _ _ (O3.mks HM.out) (O4.fxs HM2.out)).mono ?_; rintro e w5 ⟨rfl, hy⟩)); go_wp2_with fail; (refine hK.out _ _ (by first | assumption | exact Ext.trans (by assumption) hy | exact Res.ext (by assumption) hy | exact ResB.ext (by assumption) hy | exact ResC.ext (by assumption) hy | (go_split_ands; (repeat' apply And.intro) <;> exact Ext.cellOf hy (by assumption))) (fun hHeld => ?_)); clear hK K; (try simp only [Act.put, Ord.a, Ord.b, Ord.c]))
    (refine wpAnyH_ready (rs := [4]) (by kernel_rfl) (by simp) ?_; refine AllReadyH.cons rfl (fun K hK => ?_) AllReadyH.nil; go_simp; (first | (go_at_call 27; refine (toCourse_any _ _ _ _ _ _ (HF.out.ext (X2.out.trans (by first | assumption | exact (Ext.refl _).drew))) HL.out).mono ?_; rintro e w3 ⟨B3, rfl, -, O3, hy⟩) | (go_at_call 28; refine (toTrack_any _ _ _ _ (HT.out.ext (X2.out.trans (by assumption))) HL2.out).mono ?_; rintro e w4 ⟨B4, rfl, -, O4, hy⟩; (replace O3 := O3.ext hy)) | (go_at_call 44; refine (KS.out _ _ _ _ _ (O3.mks HM.out) (O4.fxs HM2.out)).mono ?_; rintro e w5 ⟨rfl, hy⟩)); go_wp2_with fail; (refine hK.out _ _ (by first | assumption | exact Ext.trans (by assumption) hy | exact Res.ext (by assumption) hy | exact ResB.ext (by assumption) hy | exact ResC.ext (by assumption) hy | (go_split_ands; (repeat' apply And.intro) <;> exact Ext.cellOf hy (by assumption))) (fun hHeld => ?_)); clear hK K; (try simp only [Act.put, Ord.a, Ord.b, Ord.c]))
    (refine wpAnyH_ready (rs := [7]) (by kernel_rfl) (by simp) ?_; refine AllReadyH.cons rfl (fun K hK => ?_) AllReadyH.nil; go_simp; (first | (go_at_call 27; refine (toCourse_any _ _ _ _ _ _ (HF.out.ext (X2.out.trans (by first | assumption | exact (Ext.refl _).drew))) HL.out).mono ?_; rintro e w3 ⟨B3, rfl, -, O3, hy⟩) | (go_at_call 28; refine (toTrack_any _ _ _ _ (HT.out.ext (X2.out.trans (by assumption))) HL2.out).mono ?_; rintro e w4 ⟨B4, rfl, -, O4, hy⟩; (replace O3 := O3.ext hy)) | (go_at_call 44; refine (KS.out _ _ _ _ _ (O3.mks HM.out) (O4.fxs HM2.out)).mono ?_; rintro e w5 ⟨rfl, hy⟩)); go_wp2_with fail; (refine hK.out _ _ (by first | assumption | exact Ext.trans (by assumption) hy | exact Res.ext (by assumption) hy | exact ResB.ext (by assumption) hy | exact ResC.ext (by assumption) hy | (go_split_ands; (repeat' apply And.intro) <;> exact Ext.cellOf hy (by assumption))) (fun hHeld => ?_)); clear hK K; (try simp only [Act.put, Ord.a, Ord.b, Ord.c]))
    refine Ord.K 8 28 ?_
    refine Ord.K 9 37 ?_
    refine Ord.K 10 38 ?_
    refine Ord.K 11 12 ?_
    refine Ord.K 12 13 ?_
    refine wpAnyH_done (by kernel_rfl) ?_ _
    clear e0 e1 e2 e3 e4 e5 e6 e7 e8 d1 B2 O3 O4
    have X5 := Lib.hid (show Ext W0 w5 from X2.out.trans hHeld)
    clear hHeld X2 hy
    obtain ⟨⟨p0, p1, p2, p3, p4, p5, p6, p7, p8⟩, _⟩ := Box.nine (BB.out.ext X5.out)
    go_wp2_with fail
    refine (toCourse_any _ _ _ _ _ _ (HF.out.ext X5.out) HL.out).mono ?_
    rintro e w6 ⟨B6, rfl, l6, O6, h⟩
    have n6 : 0 < ms.length → B6 < w6.heap.size := fun h0 => World.block_lt_of_cell? w6 _ (O6 0 h0).1.1
    have EX := Lib.hid h
    have z6 := Ext.size h
    have P6 := Lib.hid O6
    clear h O6 p0 p1 p2 p3 p4 p5 p6 p7 p8
    have c9 : ∀ A, (w6.alloc A).cell? ⟨w.heap.size + 1, 0, none⟩ = some (.slice a2 fs.length cap2) := fun A => ((Ext.refl w6).alloc A).cellOf ((X5.out.trans EX.out).cellOf CT.out)
    go_wp2_with fail
    refine (toTrack_any _ _ _ _ (HT.out.ext ((X5.out.trans EX.out).alloc _)) HL2.out).mono ?_
    rintro e w7 ⟨B7, rfl, l7, O7, h⟩
    have l8 : w6.heap.size + 1 ≤ B7 := by simpa using l7
    have n7 : 0 < fs.length → B7 < w7.heap.size := fun h0 => World.block_lt_of_cell? w7 _ (O7 0 h0).1.1
    have z7 := Ext.size h
    simp at z7
    have BX := Lib.hid ((Box.new (w := w6) (vs := cellsC l k (.slice (some ⟨B6, 0, none⟩) ms.length ms.length)) (t := 30) rfl).ext h)
    replace h := ((Ext.refl w6).alloc (.cells (cellsC l k (.slice (some ⟨B6, 0, none⟩) ms.length ms.length)).toArray 30)).trans h
    replace P6 := Lib.hid (P6.out.ext h)
    replace EX := Lib.hid (EX.out.trans h)
    have P7 := Lib.hid O7
    clear h O7 c9 l7
    have f0 : ∀ A, (w7.alloc A).cell? ⟨w6.heap.size, 0, none⟩ = some (.int .i64 l.a) := fun A => ((Ext.refl w7).alloc A).cellOf (BX.out 0 _ rfl).1
    have f1 : ∀ A, (w7.alloc A).cell? ⟨w6.heap.size, 1, none⟩ = some (.int .i64 l.b) := fun A => ((Ext.refl w7).alloc A).cellOf (BX.out 1 _ rfl).1
    have f2 : ∀ A, (w7.alloc A).cell? ⟨w6.heap.size, 2, none⟩ = some (.int .i64 l.c) := fun A => ((Ext.refl w7).alloc A).cellOf (BX.out 2 _ rfl).1
    have f3 : ∀ A, (w7.alloc A).cell? ⟨w6.heap.size, 3, none⟩ = some (.int .i64 l.d) := fun A => ((Ext.refl w7).alloc A).cellOf (BX.out 3 _ rfl).1
    have f4 : ∀ A, (w7.alloc A).cell? ⟨w6.heap.size, 4, none⟩ = some (.int .i64 k.a) := fun A => ((Ext.refl w7).alloc A).cellOf (BX.out 4 _ rfl).1
    have f5 : ∀ A, (w7.alloc A).cell? ⟨w6.heap.size, 5, none⟩ = some (.int .i64 k.b) := fun A => ((Ext.refl w7).alloc A).cellOf (BX.out 5 _ rfl).1
    have f6 : ∀ A, (w7.alloc A).cell? ⟨w6.heap.size, 6, none⟩ = some (.int .i64 k.c) := fun A => ((Ext.refl w7).alloc A).cellOf (BX.out 6 _ rfl).1
    have f7 : ∀ A, (w7.alloc A).cell? ⟨w6.heap.size, 7, none⟩ = some (.int .i64 k.d) := fun A => ((Ext.refl w7).alloc A).cellOf (BX.out 7 _ rfl).1
    have f8 : ∀ A, (w7.alloc A).cell? ⟨w6.heap.size, 8, none⟩ = some (.slice (some ⟨B6, 0, none⟩) ms.length ms.length) := fun A => ((Ext.refl w7).alloc A).cellOf (BX.out 8 _ rfl).1
    go_wp2_with fail
    refine (KI.out _ _ _ _ _ ((P6.out.mks HM.out).ext (by repeat (first | exact Ext.refl _ | assumption | apply Ext.alloc | apply Ext.drew | (refine Ext.trans ?_ (by assumption)) | (refine Ext.setNew ?_ (by simp <;> omega) _)))) ((P7.out.fxs HM2.out).ext (by repeat (first | exact Ext.refl _ | assumption | apply Ext.alloc | apply Ext.drew | (refine Ext.trans ?_ (by assumption)) | (refine Ext.setNew ?_ (by simp <;> omega) _)))) (Nat.le_refl _)).mono ?_
    rintro e w8 ⟨rfl, h⟩
    have BT := Lib.hid ((Box.new (w := w7) (vs := [.slice (some ⟨B7, 0, none⟩) fs.length fs.length]) (t := 33) rfl).ext h)
    replace h := ((Ext.refl w7).alloc (.cells #[.slice (some ⟨B7, 0, none⟩) fs.length fs.length] 33)).trans h
    replace P6 := Lib.hid (P6.out.ext h)
    replace P7 := Lib.hid (P7.out.ext h)
    replace BX := Lib.hid (BX.out.ext h)
    replace EX := Lib.hid (EX.out.trans h)
    clear h f0 f1 f2 f3 f4 f5 f6 f7 f8
    have B8 := Lib.hid (BB.out.ext (X5.out.trans EX.out))
    have e0 : ∀ w', Ext w8 w' → w'.cell? ⟨w.heap.size, 0, none⟩ = some (.int .i64 l.a) := fun w' h => h.cellOf (B8.out 0 _ rfl).1
    have e1 : ∀ w', Ext w8 w' → w'.cell? ⟨w.heap.size, 1, none⟩ = some (.int .i64 l.b) := fun w' h => h.cellOf (B8.out 1 _ rfl).1
    have e2 : ∀ w', Ext w8 w' → w'.cell? ⟨w.heap.size, 2, none⟩ = some (.int .i64 l.c) := fun w' h => h.cellOf (B8.out 2 _ rfl).1
    have e3 : ∀ w', Ext w8 w' → w'.cell? ⟨w.heap.size, 3, none⟩ = some (.int .i64 l.d) := fun w' h => h.cellOf (B8.out 3 _ rfl).1
    have e4 : ∀ w', Ext w8 w' → w'.cell? ⟨w.heap.size, 4, none⟩ = some (.int .i64 k.a) := fun w' h => h.cellOf (B8.out 4 _ rfl).1
    have e5 : ∀ w', Ext w8 w' → w'.cell? ⟨w.heap.size, 5, none⟩ = some (.int .i64 k.b) := fun w' h => h.cellOf (B8.out 5 _ rfl).1
    have e6 : ∀ w', Ext w8 w' → w'.cell? ⟨w.heap.size, 6, none⟩ = some (.int .i64 k.c) := fun w' h => h.cellOf (B8.out 6 _ rfl).1
    have e7 : ∀ w', Ext w8 w' → w'.cell? ⟨w.heap.size, 7, none⟩ = some (.int .i64 k.d) := fun w' h => h.cellOf (B8.out 7 _ rfl).1
    have e8 : ∀ w', Ext w8 w' → w'.cell? ⟨w.heap.size, 8, none⟩ = some (.slice a ms.length cap) := fun w' h => h.cellOf (B8.out 8 _ rfl).1
    have f0 : ∀ w', Ext w8 w' → w'.cell? ⟨w6.heap.size, 0, none⟩ = some (.int .i64 l.a) := fun w' h => h.cellOf (BX.out 0 _ rfl).1
    have f1 : ∀ w', Ext w8 w' → w'.cell? ⟨w6.heap.size, 1, none⟩ = some (.int .i64 l.b) := fun w' h => h.cellOf (BX.out 1 _ rfl).1
    have f2 : ∀ w', Ext w8 w' → w'.cell? ⟨w6.heap.size, 2, none⟩ = some (.int .i64 l.c) := fun w' h => h.cellOf (BX.out 2 _ rfl).1
    have f3 : ∀ w', Ext w8 w' → w'.cell? ⟨w6.heap.size, 3, none⟩ = some (.int .i64 l.d) := fun w' h => h.cellOf (BX.out 3 _ rfl).1
    have f4 : ∀ w', Ext w8 w' → w'.cell? ⟨w6.heap.size, 4, none⟩ = some (.int .i64 k.a) := fun w' h => h.cellOf (BX.out 4 _ rfl).1
    have f5 : ∀ w', Ext w8 w' → w'.cell? ⟨w6.heap.size, 5, none⟩ = some (.int .i64 k.b) := fun w' h => h.cellOf (BX.out 5 _ rfl).1
    have f6 : ∀ w', Ext w8 w' → w'.cell? ⟨w6.heap.size, 6, none⟩ = some (.int .i64 k.c) := fun w' h => h.cellOf (BX.out 6 _ rfl).1
    have f7 : ∀ w', Ext w8 w' → w'.cell? ⟨w6.heap.size, 7, none⟩ = some (.int .i64 k.d) := fun w' h => h.cellOf (BX.out 7 _ rfl).1
    have f8 : ∀ w', Ext w8 w' → w'.cell? ⟨w6.heap.size, 8, none⟩ = some (.slice (some ⟨B6, 0, none⟩) ms.length ms.length) := fun w' h => h.cellOf (BX.out 8 _ rfl).1
    go_upto_region 14 with fail
    refine wp_region_held_drew (S := (fun w' => Ext w8 w')) (by kernel_rfl) (by (try dsimp only); first | go_keep | exact (Ext.refl _).drew | exact Res.new2.drew | exact Res.new4.drew | exact ResB.drew (by assumption) | exact ResC.drew (by assumption) | assumption | exact Ext.drew (by assumption) | exact Res.drew (by assumption)) (fun hHeld => ?_)
    refine Ord.K 0 60 ?_
    refine Ord.K 1 61 ?_
    (refine wpAnyH_ready (rs := [2]) (by kernel_rfl) (by simp) ?_; refine AllReadyH.cons rfl (fun K hK => ?_) AllReadyH.nil; go_simp; (first | (go_at_call 27; refine (toCourse_any _ _ _ _ _ _ (HF.out.ext (X5.out.trans (EX.out.trans (by first | assumption | exact (Ext.refl _).drew)))) HL.out).mono ?_; rintro e w10 ⟨B10, rfl, -, O10, hy⟩) | (go_at_call 30; refine (eqCourse_same _ _ _ _ _ _ _ _ ((P6.out.ext (by assumption)).mks HM.out) (O10.mks HM.out)).mono ?_; rintro e w11 ⟨rfl, hy⟩)); go_wp2_with fail; (refine hK.out _ _ (by first | assumption | exact Ext.trans (by assumption) hy | exact Res.ext (by assumption) hy | exact ResB.ext (by assumption) hy | exact ResC.ext (by assumption) hy | (go_split_ands; (repeat' apply And.intro) <;> exact Ext.cellOf hy (by assumption))) (fun hHeld => ?_)); clear hK K; (try simp only [Act.put, Ord.a, Ord.b, Ord.c]))
    (refine wpAnyH_ready (rs := [3]) (by kernel_rfl) (by simp) ?_; refine AllReadyH.cons rfl (fun K hK => ?_) AllReadyH.nil; go_simp; (first | (go_at_call 27; refine (toCourse_any _ _ _ _ _ _ (HF.out.ext (X5.out.trans (EX.out.trans (by first | assumption | exact (Ext.refl _).drew)))) HL.out).mono ?_; rintro e w10 ⟨B10, rfl, -, O10, hy⟩) | (go_at_call 30; refine (eqCourse_same _ _ _ _ _ _ _ _ ((P6.out.ext (by assumption)).mks HM.out) (O10.mks HM.out)).mono ?_; rintro e w11 ⟨rfl, hy⟩)); go_wp2_with fail; (refine hK.out _ _ (by first | assumption | exact Ext.trans (by assumption) hy | exact Res.ext (by assumption) hy | exact ResB.ext (by assumption) hy | exact ResC.ext (by assumption) hy | (go_split_ands; (repeat' apply And.intro) <;> exact Ext.cellOf hy (by assumption))) (fun hHeld => ?_)); clear hK K; (try simp only [Act.put, Ord.a, Ord.b, Ord.c]))
    refine Ord.K 4 64 ?_
    refine wpAnyH_done (by kernel_rfl) ?_ _
    have h : Ext w8 w11 := hHeld
    replace P6 := Lib.hid (P6.out.ext h)
    replace P7 := Lib.hid (P7.out.ext h)
    replace BX := Lib.hid (BX.out.ext h)
    replace BT := Lib.hid (BT.out.ext h)
    replace EX := Lib.hid (EX.out.trans h)
    clear h hHeld hy O10 B8 e0 e1 e2 e3 e4 e5 e6 e7 e8 f0 f1 f2 f3 f4 f5 f6 f7 f8
    have d1 : ∀ w', Ext w11 w' → w'.cell? ⟨w.heap.size + 1, 0, none⟩ = some (.slice a2 fs.length cap2) := fun w' h => h.cellOf ((X5.out.trans EX.out).cellOf CT.out)
    have d2 : ∀ w', Ext w11 w' → w'.cell? ⟨w7.heap.size, 0, none⟩ = some (.slice (some ⟨B7, 0, none⟩) fs.length fs.length) := fun w' h => h.cellOf (BT.out 0 _ rfl).1
    go_upto_region 16 with fail
    refine wp_region_held_drew (S := (fun w' => Ext w11 w')) (by kernel_rfl) (by (try dsimp only); first | go_keep | exact (Ext.refl _).drew | exact Res.new2.drew | exact Res.new4.drew | exact ResB.drew (by assumption) | exact ResC.drew (by assumption) | assumption | exact Ext.drew (by assumption) | exact Res.drew (by assumption)) (fun hHeld => ?_)
    refine Ord.K 0 65 ?_
    refine Ord.K 1 66 ?_
    (refine wpAnyH_ready (rs := [2]) (by kernel_rfl) (by simp) ?_; refine AllReadyH.cons rfl (fun K hK => ?_) AllReadyH.nil; go_simp; (first | (go_at_call 28; refine (toTrack_any _ _ _ _ (HT.out.ext (X5.out.trans (EX.out.trans (by first | assumption | exact (Ext.refl _).drew)))) HL2.out).mono ?_; rintro e w12 ⟨B12, rfl, -, O12, hy⟩) | (go_at_call 31; refine (eqTrack_same _ _ _ _ _ _ ((P7.out.ext (by assumption)).fxs HM2.out) (O12.fxs HM2.out)).mono ?_; rintro e w13 ⟨rfl, hy⟩)); go_wp2_with fail; (refine hK.out _ _ (by first | assumption | exact Ext.trans (by assumption) hy | exact Res.ext (by assumption) hy | exact ResB.ext (by assumption) hy | exact ResC.ext (by assumption) hy | (go_split_ands; (repeat' apply And.intro) <;> exact Ext.cellOf hy (by assumption))) (fun hHeld => ?_)); clear hK K; (try simp only [Act.put, Ord.a, Ord.b, Ord.c]))
    (refine wpAnyH_ready (rs := [3]) (by kernel_rfl) (by simp) ?_; refine AllReadyH.cons rfl (fun K hK => ?_) AllReadyH.nil; go_simp; (first | (go_at_call 28; refine (toTrack_any _ _ _ _ (HT.out.ext (X5.out.trans (EX.out.trans (by first | assumption | exact (Ext.refl _).drew)))) HL2.out).mono ?_; rintro e w12 ⟨B12, rfl, -, O12, hy⟩) | (go_at_call 31; refine (eqTrack_same _ _ _ _ _ _ ((P7.out.ext (by assumption)).fxs HM2.out) (O12.fxs HM2.out)).mono ?_; rintro e w13 ⟨rfl, hy⟩)); go_wp2_with fail; (refine hK.out _ _ (by first | assumption | exact Ext.trans (by assumption) hy | exact Res.ext (by assumption) hy | exact ResB.ext (by assumption) hy | exact ResC.ext (by assumption) hy | (go_split_ands; (repeat' apply And.intro) <;> exact Ext.cellOf hy (by assumption))) (fun hHeld => ?_)); clear hK K; (try simp only [Act.put, Ord.a, Ord.b, Ord.c]))
    refine Ord.K 4 69 ?_
    refine wpAnyH_done (by kernel_rfl) ?_ _
    have h : Ext w11 w13 := hHeld
    replace P6 := Lib.hid (P6.out.ext h)
    replace P7 := Lib.hid (P7.out.ext h)
    replace BX := Lib.hid (BX.out.ext h)
    replace BT := Lib.hid (BT.out.ext h)
    replace EX := Lib.hid (EX.out.trans h)
    clear h hHeld hy O12 d1 d2
    go_wp2
    go_ret
    exact ⟨rfl, HW.out.trans (X5.out.trans EX.out)⟩
end Go.Proofs.YtpdnefodbichkaaGreat.fnExactLengthsToMark
