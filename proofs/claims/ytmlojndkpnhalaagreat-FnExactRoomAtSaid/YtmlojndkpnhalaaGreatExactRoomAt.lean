import Derived.Test.YtmlojndkpnhalaaGreatMRmd
import Derived.Test.YtmlojndkpnhalaaGreatRmx
import Derived.Test.YtmlojndkpnhalaaGreatMtx
import Derived.Test.YtmlojndkpnhalaaGreatMMks
import Derived.Test.YtmlojndkpnhalaaGreatOpnC
import Derived.Test.YtmlojndkpnhalaaGreatOpnT
import Derived.Test.YtmlojndkpnhalaaGreatClo
import Derived.ChangeOld
import Derived.Below
import Derived.Lib.SmallJoins
import Derived.Deep.DeepCutAuto
namespace Go.Proofs.YtmlojndkpnhalaaGreat.fnExactRoomAt
open Go.ChangeShapes Go.WideShapes Go.ChangeAt Go.RowKit
open Go.Proofs.YtmlojndkpnhalaaGreat.Kit Go.Proofs.YtmlojndkpnhalaaGreat.Pts Go.Proofs.YtmlojndkpnhalaaGreat.Seg Go.Proofs.YtmlojndkpnhalaaGreat.Crs Go.Proofs.YtmlojndkpnhalaaGreat.Rmd Go.Proofs.YtmlojndkpnhalaaGreat.Wnd
open Go.Proofs.YtmlojndkpnhalaaGreat.Trk (F3 Fxs Tr trB szL_neg szL_pos szTrack_any toTrack_any eqTrack_same)
set_option linter.unusedVariables false
set_option linter.unusedSimpArgs false
theorem szR_le {m : Int} {ms : List M5} (hm : 0 ≤ m) : szR m ms ≤ m := by
  unfold szR
  split
  · omega
  · have := szT_le (m - ms.length) ms ms.length; omega
set_option maxRecDepth 100000 in
set_option maxHeartbeats 16000000 in
theorem walk (x y : Int) (l k : L4) (a : Option Addr) (cap : Nat) (ms : List M5) (n : Int) (a2 : Option Addr) (ca : Nat) (fs : List F3) (a3 : Option Addr) (cb : Nat) (gs : List F3) (len : Int) (w : World) (hf : Mks w a ms) (ht : Fxs w a2 fs) (hg : Fxs w a3 gs) :
    Calls Tryz.prog 10 #[Pt x y, CV l k (.slice a ms.length cap), .int .i64 n, Tr (.slice a2 fs.length ca), Tr (.slice a3 gs.length cb), .int .i64 len] w fun e w' => e = .returned (.bool true) ∧ Ext w w' := by
  have HM := Lib.hid hf.1
  have HM2 := Lib.hid ht.1
  have HM3 := Lib.hid hg.1
  obtain ⟨W0, hW0⟩ : ∃ W0, W0 = (((w.alloc (.cells #[.int .i64 x, .int .i64 y] 91)).alloc (.cells (cellsC l k (.slice a ms.length cap)).toArray 79)).alloc (.cells #[.slice a2 fs.length ca] 94)).alloc (.cells #[.slice a3 gs.length cb] 94) := ⟨_, rfl⟩
  have HW := Lib.hid (show Ext w W0 from hW0 ▸ (((((Ext.refl w).alloc _).alloc _).alloc _).alloc _))
  have CW0 := Lib.hid (show W0.cell? ⟨w.heap.size, 0, none⟩ = some (.int .i64 x) from hW0 ▸ ((((Ext.refl _).alloc _).alloc _).alloc _).cellOf (boxed 0 rfl (by simp)))
  have CW1 := Lib.hid (show W0.cell? ⟨w.heap.size, 1, none⟩ = some (.int .i64 y) from hW0 ▸ ((((Ext.refl _).alloc _).alloc _).alloc _).cellOf (boxed 1 rfl (by simp)))
  have BB := Lib.hid (show Box W0 (w.heap.size + 1) (cellsC l k (.slice a ms.length cap)) from hW0 ▸ (((Box.new (by simp)).alloc _).alloc _))
  have CT := Lib.hid (show W0.cell? ⟨w.heap.size + 1 + 1, 0, none⟩ = some (.slice a2 fs.length ca) from hW0 ▸ ((Ext.refl _).alloc _).cellOf (boxed 0 rfl (by simp)))
  have CU := Lib.hid (show W0.cell? ⟨w.heap.size + 1 + 1 + 1, 0, none⟩ = some (.slice a3 gs.length cb) from hW0 ▸ boxed 0 rfl (by simp))
  have HF := Lib.hid (hf.ext HW.out)
  have HT := Lib.hid (ht.ext HW.out)
  have HU := Lib.hid (hg.ext HW.out)
  clear hf ht hg
  have PS := Lib.hid (fun w (h : Mks w a ms) => szCourse_any l k a cap ms 1048576 w h (by decide) (by decide))
  by_cases hl : szR 1048576 ms < 0
  · rw [if_pos hl] at PS
    go_enter Tryz.func10, Tryz.ntmps10
    go_wp2_with fail
    rw [← hW0]
    clear hW0
    refine (PS.out _ HF.out).mono ?_
    rintro e w1 ⟨rfl, h1⟩
    go_wp2
    go_ret
    exact ⟨rfl, HW.out.trans h1⟩
  rw [if_neg hl] at PS
  have HL := Lib.hid (szR_yes hl (by decide) (by decide)).1
  have S1 := szR_le (m := 1048576) (ms := ms) (by decide)
  obtain ⟨S, hS⟩ : ∃ S, S = szR 1048576 ms := ⟨_, rfl⟩
  rw [← hS] at PS hl S1
  clear hS
  have hl2 : decide (S < 0) = false := decide_eq_false hl
  have S0 : 0 ≤ S := by omega
  by_cases hl3 : S - fs.length < 0
  · have HSN := Lib.hid (szL_neg hl3)
    go_enter Tryz.func10, Tryz.ntmps10
    go_wp2_with fail
    rw [← hW0]
    clear hW0
    refine (PS.out _ HF.out).mono ?_
    rintro e w1 ⟨rfl, h1⟩
    have X1 := Lib.hid h1
    clear h1
    have c9 := X1.out.cellOf CT.out
    go_wp2_with fail
    refine (szTrack_any a2 fs.length ca S _ HM2.out (by omega) (by omega)).mono ?_
    rw [HSN.out]
    rintro e w2 ⟨rfl, h2⟩
    have X2 := Lib.hid (X1.out.trans h2)
    clear h2 c9
    go_wp2
    go_ret
    exact ⟨rfl, HW.out.trans X2.out⟩
  have HSP := Lib.hid (szL_pos hl3)
  have hl4 : decide (S - (fs.length : Int) < 0) = false := decide_eq_false hl3
  have HL2 := Lib.hid (show fs.length ≤ 1048576 by omega)
  obtain ⟨S3, hS3⟩ : ∃ S3, S3 = S - (fs.length : Int) := ⟨_, rfl⟩
  rw [← hS3] at HSP hl3 hl4
  have S4 : 0 ≤ S3 ∧ S3 ≤ 1048576 := by omega
  by_cases hl5 : S3 - gs.length < 0
  · have HSM := Lib.hid (szL_neg hl5)
    clear hS3
    go_enter Tryz.func10, Tryz.ntmps10
    go_wp2_with fail
    rw [← hW0]
    clear hW0
    refine (PS.out _ HF.out).mono ?_
    rintro e w1 ⟨rfl, h1⟩
    have X1 := Lib.hid h1
    clear h1
    have c9 := X1.out.cellOf CT.out
    go_wp2_with fail
    refine (szTrack_any a2 fs.length ca S _ HM2.out (by omega) (by omega)).mono ?_
    rw [HSP.out]
    rintro e w2 ⟨rfl, h2⟩
    have X2 := Lib.hid (X1.out.trans h2)
    clear h2 c9
    have c9 := X2.out.cellOf CU.out
    go_wp2_with fail
    refine (szTrack_any a3 gs.length cb S3 _ HM3.out (by omega) (by omega)).mono ?_
    rw [HSM.out]
    rintro e w3 ⟨rfl, h2⟩
    have X3 := Lib.hid (X2.out.trans h2)
    clear h2 c9
    go_wp2
    go_ret
    exact ⟨rfl, HW.out.trans X3.out⟩
  have HSQ := Lib.hid (szL_pos hl5)
  have hl6 : decide (S3 - (gs.length : Int) < 0) = false := decide_eq_false hl5
  have HL3 := Lib.hid (show gs.length ≤ 1048576 by omega)
  clear hS3
  have KS := Lib.hid (fun (a : Option Addr) (cap : Nat) (a2 : Option Addr) (ca : Nat) (a3 : Option Addr) (cb : Nat) (w : World) (hf : Mks w a ms) (ht : Fxs w a2 fs) (hg : Fxs w a3 gs) (hc0 : fs.length ≤ ca) (hc1 : gs.length ≤ cb) => show Calls Tryz.prog 54 #[Pt x y, CV l k (.slice a ms.length cap), .int .i64 n, Tr (.slice a2 fs.length ca), Tr (.slice a3 gs.length cb), .int .i64 len] w (fun e w' => e = .returned (.tuple #[Pt (raG x y l k ms fs gs n len) (raR x y l k ms fs gs n len), .int .i64 (raK x y l k ms fs gs n len)]) ∧ Ext w w') from roomAt_spec x y l k a cap ms n a2 ca fs a3 cb gs len w hf ht hg hc0 hc1)
  have KI := Lib.hid (fun (a : Option Addr) (cap : Nat) (a2 : Option Addr) (ca : Nat) (a3 : Option Addr) (cb : Nat) (w : World) (hf : Mks w a ms) (ht : Fxs w a2 fs) (hg : Fxs w a3 gs) (hc0 : fs.length ≤ ca) (hc1 : gs.length ≤ cb) => show Calls Tryz.prog 55 #[Pt x y, CV l k (.slice a ms.length cap), .int .i64 n, Tr (.slice a2 fs.length ca), Tr (.slice a3 gs.length cb), .int .i64 len] w (fun e w' => e = .returned (.tuple #[Pt (raG x y l k ms fs gs n len) (raR x y l k ms fs gs n len), .int .i64 (raK x y l k ms fs gs n len)]) ∧ Ext w w') from roomAt_impl x y l k a cap ms n a2 ca fs a3 cb gs len w hf ht hg hc0 hc1)
  generalize raG x y l k ms fs gs n len = x0 at *
  generalize raR x y l k ms fs gs n len = x1 at *
  generalize raK x y l k ms fs gs n len = ck at *
  go_enter Tryz.func10, Tryz.ntmps10
  go_wp2_with fail
  rw [← hW0]
  clear hW0
  refine (PS.out _ HF.out).mono ?_
  rintro e w1 ⟨rfl, h1⟩
  have X1 := Lib.hid h1
  clear h1
  have c9 := X1.out.cellOf CT.out
  go_wp2_with fail
  refine (szTrack_any a2 fs.length ca S _ HM2.out (by omega) (by omega)).mono ?_
  rw [HSP.out]
  rintro e w2 ⟨rfl, h2⟩
  have X2 := Lib.hid (X1.out.trans h2)
  clear h2 c9
  have c9 := X2.out.cellOf CU.out
  go_wp2_with fail
  refine (szTrack_any a3 gs.length cb S3 _ HM3.out (by omega) (by omega)).mono ?_
  rw [HSQ.out]
  rintro e w3 ⟨rfl, h2⟩
  have X3 := Lib.hid (X2.out.trans h2)
  clear h2 c9
  have B2 := Lib.hid (BB.out.ext X3.out)
  have q0 : ∀ w', Ext w3 w' → w'.cell? ⟨w.heap.size, 0, none⟩ = some (.int .i64 x) := fun w' h => h.cellOf (X3.out.cellOf CW0.out)
  have q1 : ∀ w', Ext w3 w' → w'.cell? ⟨w.heap.size, 1, none⟩ = some (.int .i64 y) := fun w' h => h.cellOf (X3.out.cellOf CW1.out)
  have e0 : ∀ w', Ext w3 w' → w'.cell? ⟨w.heap.size + 1, 0, none⟩ = some (.int .i64 l.a) := fun w' h => h.cellOf (B2.out 0 _ rfl).1
  have e1 : ∀ w', Ext w3 w' → w'.cell? ⟨w.heap.size + 1, 1, none⟩ = some (.int .i64 l.b) := fun w' h => h.cellOf (B2.out 1 _ rfl).1
  have e2 : ∀ w', Ext w3 w' → w'.cell? ⟨w.heap.size + 1, 2, none⟩ = some (.int .i64 l.c) := fun w' h => h.cellOf (B2.out 2 _ rfl).1
  have e3 : ∀ w', Ext w3 w' → w'.cell? ⟨w.heap.size + 1, 3, none⟩ = some (.int .i64 l.d) := fun w' h => h.cellOf (B2.out 3 _ rfl).1
  have e4 : ∀ w', Ext w3 w' → w'.cell? ⟨w.heap.size + 1, 4, none⟩ = some (.int .i64 k.a) := fun w' h => h.cellOf (B2.out 4 _ rfl).1
  have e5 : ∀ w', Ext w3 w' → w'.cell? ⟨w.heap.size + 1, 5, none⟩ = some (.int .i64 k.b) := fun w' h => h.cellOf (B2.out 5 _ rfl).1
  have e6 : ∀ w', Ext w3 w' → w'.cell? ⟨w.heap.size + 1, 6, none⟩ = some (.int .i64 k.c) := fun w' h => h.cellOf (B2.out 6 _ rfl).1
  have e7 : ∀ w', Ext w3 w' → w'.cell? ⟨w.heap.size + 1, 7, none⟩ = some (.int .i64 k.d) := fun w' h => h.cellOf (B2.out 7 _ rfl).1
  have e8 : ∀ w', Ext w3 w' → w'.cell? ⟨w.heap.size + 1, 8, none⟩ = some (.slice a ms.length cap) := fun w' h => h.cellOf (B2.out 8 _ rfl).1
  have dt : ∀ w', Ext w3 w' → w'.cell? ⟨w.heap.size + 1 + 1, 0, none⟩ = some (.slice a2 fs.length ca) := fun w' h => h.cellOf (X3.out.cellOf CT.out)
  have du : ∀ w', Ext w3 w' → w'.cell? ⟨w.heap.size + 1 + 1 + 1, 0, none⟩ = some (.slice a3 gs.length cb) := fun w' h => h.cellOf (X3.out.cellOf CU.out)
  have hrr := Ext.refl w3
  go_upto_region 11 with fail
  go_cut [14, 15] (fun s1 s2 wx => (∃ B, s1 = .pointer (some ⟨B, 0, none⟩) ∧ Box wx B [.int .i64 x0, .int .i64 x1]) ∧ s2 = .int .i64 ck ∧ Ext w3 wx)
  case first =>
    refine wp_region_held_drew (S := fun w' => Ext w3 w') (by kernel_rfl) (by (try dsimp only); exact Ext.drew (Ext.refl w3)) (fun hHeld => ?_)
    have hE : Ext w3 w3.drew := Ext.drew (Ext.refl w3)
    obtain ⟨V0, hV0⟩ : ∃ V0, V0 = w3.drew := ⟨_, rfl⟩
    rw [← hV0] at hE hHeld ⊢
    clear hV0
    refine Ord.K 0 37 ?_; refine Ord.K 2 39 ?_; refine Ord.K 4 41 ?_; refine Ord.K 5 42 ?_; refine Ord.K 7 44 ?_; refine Ord.K 9 46 ?_
    refine wpAnyH_ready (rs := [1, 14]) (by kernel_rfl) (by simp) ?_
    refine (AllReadyH.cons rfl (fun K hK => ?_) (AllReadyH.cons rfl (fun K hK => ?_) AllReadyH.nil))
    · go_simp
      go_at_call 50
      refine (toWind_any x y _).mono ?_
      rintro e V1 ⟨rfl, hy⟩
      go_wp2_with fail
      have zy := Ext.size hy
      have hE' := hE.trans hy
      refine hK.out _ _ hE' (fun hHeld => ?_)
      clear hK K
      (try simp only [Act.put, Ord.a, Ord.b, Ord.c])
      replace hE := hE'
      clear hE' hy
      refine wpAnyH_ready (rs := [3, 14]) (by kernel_rfl) (by simp) ?_
      refine (AllReadyH.cons rfl (fun K hK => ?_) (AllReadyH.cons rfl (fun K hK => ?_) AllReadyH.nil))
      · go_simp
        go_at_call 40
        refine (toCourse_any l k a cap ms _ (HF.out.ext (X3.out.trans hE)) HL.out).mono ?_
        rintro e V2 ⟨B3, rfl, -, O3, hy⟩
        go_wp2_with fail
        have zy := Ext.size hy
        have hE' := hE.trans hy
        refine hK.out _ _ hE' (fun hHeld => ?_)
        clear hK K
        (try simp only [Act.put, Ord.a, Ord.b, Ord.c])
        replace hE := hE'
        have R3 := O3.mks HM.out
        clear hE' hy
        refine wpAnyH_ready (rs := [6, 14]) (by kernel_rfl) (by simp) ?_
        refine (AllReadyH.cons rfl (fun K hK => ?_) (AllReadyH.cons rfl (fun K hK => ?_) AllReadyH.nil))
        · go_simp
          go_at_call 51
          refine (toTrack_any a2 ca fs _ (HT.out.ext (X3.out.trans hE)) HL2.out).mono ?_
          rintro e V3 ⟨B4, rfl, -, O4, hy⟩
          go_wp2_with fail
          have zy := Ext.size hy
          have hE' := hE.trans hy
          refine hK.out _ _ hE' (fun hHeld => ?_)
          clear hK K
          (try simp only [Act.put, Ord.a, Ord.b, Ord.c])
          replace R3 := Mks.ext R3 hy
          replace hE := hE'
          have R4 := O4.fxs HM2.out
          clear hE' hy
          refine wpAnyH_ready (rs := [8, 14]) (by kernel_rfl) (by simp) ?_
          refine (AllReadyH.cons rfl (fun K hK => ?_) (AllReadyH.cons rfl (fun K hK => ?_) AllReadyH.nil))
          · go_simp
            go_at_call 51
            refine (toTrack_any a3 cb gs _ (HU.out.ext (X3.out.trans hE)) HL3.out).mono ?_
            rintro e V4 ⟨B5, rfl, -, O5, hy⟩
            go_wp2_with fail
            have zy := Ext.size hy
            have hE' := hE.trans hy
            refine hK.out _ _ hE' (fun hHeld => ?_)
            clear hK K
            (try simp only [Act.put, Ord.a, Ord.b, Ord.c])
            replace R3 := Mks.ext R3 hy
            replace R4 := Trk.Fxs.ext R4 hy
            replace hE := hE'
            have R5 := O5.fxs HM3.out
            clear hE' hy
            refine wpAnyH_ready (rs := [10, 14]) (by kernel_rfl) (by simp) ?_
            refine (AllReadyH.cons rfl (fun K hK => ?_) (AllReadyH.cons rfl (fun K hK => ?_) AllReadyH.nil))
            · go_simp
              go_at_call 54
              refine (KS.out _ _ _ _ _ _ _ R3 R4 R5 (Nat.le_refl _) (Nat.le_refl _)).mono ?_
              rintro e V5 ⟨rfl, hy⟩
              go_wp2_with fail
              have zy := Ext.size hy
              have hE' := hE.trans hy
              refine hK.out _ _ hE' (fun hHeld => ?_)
              clear hK K
              (try simp only [Act.put, Ord.a, Ord.b, Ord.c])
              replace R3 := Mks.ext R3 hy
              replace R4 := Trk.Fxs.ext R4 hy
              replace R5 := Trk.Fxs.ext R5 hy
              replace hE := hE'
              clear hE' hy
              refine Ord.K 11 36 ?_; refine Ord.K 12 48 ?_; refine Ord.K 13 49 ?_
              refine wpAnyH_ready (rs := [14]) (by kernel_rfl) (by simp) ?_
              refine (AllReadyH.cons rfl (fun K hK => ?_) AllReadyH.nil)
              go_simp
              have hy : Ext V5 (V5.alloc (.cells #[.int .i64 0, .int .i64 0] 102)) := (Ext.refl V5).alloc _
              have hE' := hE.trans hy
              refine hK.out _ _ hE' (fun hHeld => ?_)
              clear hK K
              (try simp only [Act.put, Ord.a, Ord.b, Ord.c])
              replace R3 := Mks.ext R3 hy
              replace R4 := Trk.Fxs.ext R4 hy
              replace R5 := Trk.Fxs.ext R5 hy
              have P14 : Box (V5.alloc (.cells #[.int .i64 0, .int .i64 0] 102)) V5.heap.size [.int .i64 0, .int .i64 0] := Box.new (vs := [.int .i64 0, .int .i64 0]) rfl
              have z14 := Ext.size hE
              have y14 : V5.heap.size < (V5.alloc (.cells #[.int .i64 0, .int .i64 0] 102)).heap.size := by simp
              replace hE := hE'
              clear hE' hy
              generalize V5.alloc (.cells #[.int .i64 0, .int .i64 0] 102) = V6 at *
              refine wpAnyH_ready (rs := [15]) (by kernel_rfl) (by simp) ?_
              refine (AllReadyH.cons rfl (fun K hK => ?_) AllReadyH.nil)
              obtain ⟨⟨r0, r1⟩, r2, r3⟩ := P14.two
              go_simp
              have hE' : Ext w3 ((V6.setCell ⟨V5.heap.size, 0, none⟩ (.int .i64 x0)).setCell ⟨V5.heap.size, 1, none⟩ (.int .i64 x1)) := ((hE.setNew (by first | omega | (simp; omega) | simp) _).setNew (by first | omega | (simp; omega) | simp) _)
              refine hK.out _ _ hE' (fun hHeld => ?_)
              clear hK K r0 r1 r2 r3
              (try simp only [Act.put, Ord.a, Ord.b, Ord.c])
              replace P14 := P14.set2 (u := .int .i64 x0) (v := .int .i64 x1)
              replace hE := hE'
              clear hE'
              generalize ((V6.setCell ⟨V5.heap.size, 0, none⟩ (.int .i64 x0)).setCell ⟨V5.heap.size, 1, none⟩ (.int .i64 x1)) = V7 at *
              refine Ord.K 16 15 ?_
              refine wpAnyH_done (by kernel_rfl) ?_ _
              go_wp2_with fail; go_meet; exact ⟨⟨_, rfl, P14⟩, rfl, hE⟩
            · go_simp
              have hy : Ext V4 (V4.alloc (.cells #[.int .i64 0, .int .i64 0] 102)) := (Ext.refl V4).alloc _
              have hE' := hE.trans hy
              refine hK.out _ _ hE' (fun hHeld => ?_)
              clear hK K
              (try simp only [Act.put, Ord.a, Ord.b, Ord.c])
              replace R3 := Mks.ext R3 hy
              replace R4 := Trk.Fxs.ext R4 hy
              replace R5 := Trk.Fxs.ext R5 hy
              have P14 : Box (V4.alloc (.cells #[.int .i64 0, .int .i64 0] 102)) V4.heap.size [.int .i64 0, .int .i64 0] := Box.new (vs := [.int .i64 0, .int .i64 0]) rfl
              have z14 := Ext.size hE
              have y14 : V4.heap.size < (V4.alloc (.cells #[.int .i64 0, .int .i64 0] 102)).heap.size := by simp
              replace hE := hE'
              clear hE' hy
              generalize V4.alloc (.cells #[.int .i64 0, .int .i64 0] 102) = V5 at *
              refine wpAnyH_ready (rs := [10]) (by kernel_rfl) (by simp) ?_
              refine (AllReadyH.cons rfl (fun K hK => ?_) AllReadyH.nil)
              go_simp
              go_at_call 54
              refine (KS.out _ _ _ _ _ _ _ R3 R4 R5 (Nat.le_refl _) (Nat.le_refl _)).mono ?_
              rintro e V6 ⟨rfl, hy⟩
              go_wp2_with fail
              have zy := Ext.size hy
              have hE' := hE.trans hy
              refine hK.out _ _ hE' (fun hHeld => ?_)
              clear hK K
              (try simp only [Act.put, Ord.a, Ord.b, Ord.c])
              replace R3 := Mks.ext R3 hy
              replace R4 := Trk.Fxs.ext R4 hy
              replace R5 := Trk.Fxs.ext R5 hy
              replace P14 := P14.ext hy
              replace hE := hE'
              clear hE' hy
              refine Ord.K 11 36 ?_; refine Ord.K 12 48 ?_; refine Ord.K 13 49 ?_
              refine wpAnyH_ready (rs := [15]) (by kernel_rfl) (by simp) ?_
              refine (AllReadyH.cons rfl (fun K hK => ?_) AllReadyH.nil)
              obtain ⟨⟨r0, r1⟩, r2, r3⟩ := P14.two
              go_simp
              have hE' : Ext w3 ((V6.setCell ⟨V4.heap.size, 0, none⟩ (.int .i64 x0)).setCell ⟨V4.heap.size, 1, none⟩ (.int .i64 x1)) := ((hE.setNew (by first | omega | (simp; omega) | simp) _).setNew (by first | omega | (simp; omega) | simp) _)
              refine hK.out _ _ hE' (fun hHeld => ?_)
              clear hK K r0 r1 r2 r3
              (try simp only [Act.put, Ord.a, Ord.b, Ord.c])
              replace P14 := P14.set2 (u := .int .i64 x0) (v := .int .i64 x1)
              replace hE := hE'
              clear hE'
              generalize ((V6.setCell ⟨V4.heap.size, 0, none⟩ (.int .i64 x0)).setCell ⟨V4.heap.size, 1, none⟩ (.int .i64 x1)) = V7 at *
              refine Ord.K 16 15 ?_
              refine wpAnyH_done (by kernel_rfl) ?_ _
              go_wp2_with fail; go_meet; exact ⟨⟨_, rfl, P14⟩, rfl, hE⟩
          · go_simp
            have hy : Ext V3 (V3.alloc (.cells #[.int .i64 0, .int .i64 0] 102)) := (Ext.refl V3).alloc _
            have hE' := hE.trans hy
            refine hK.out _ _ hE' (fun hHeld => ?_)
            clear hK K
            (try simp only [Act.put, Ord.a, Ord.b, Ord.c])
            replace R3 := Mks.ext R3 hy
            replace R4 := Trk.Fxs.ext R4 hy
            have P14 : Box (V3.alloc (.cells #[.int .i64 0, .int .i64 0] 102)) V3.heap.size [.int .i64 0, .int .i64 0] := Box.new (vs := [.int .i64 0, .int .i64 0]) rfl
            have z14 := Ext.size hE
            have y14 : V3.heap.size < (V3.alloc (.cells #[.int .i64 0, .int .i64 0] 102)).heap.size := by simp
            replace hE := hE'
            clear hE' hy
            generalize V3.alloc (.cells #[.int .i64 0, .int .i64 0] 102) = V4 at *
            refine wpAnyH_ready (rs := [8]) (by kernel_rfl) (by simp) ?_
            refine (AllReadyH.cons rfl (fun K hK => ?_) AllReadyH.nil)
            go_simp
            go_at_call 51
            refine (toTrack_any a3 cb gs _ (HU.out.ext (X3.out.trans hE)) HL3.out).mono ?_
            rintro e V5 ⟨B5, rfl, -, O5, hy⟩
            go_wp2_with fail
            have zy := Ext.size hy
            have hE' := hE.trans hy
            refine hK.out _ _ hE' (fun hHeld => ?_)
            clear hK K
            (try simp only [Act.put, Ord.a, Ord.b, Ord.c])
            replace R3 := Mks.ext R3 hy
            replace R4 := Trk.Fxs.ext R4 hy
            replace P14 := P14.ext hy
            replace hE := hE'
            have R5 := O5.fxs HM3.out
            clear hE' hy
            refine wpAnyH_ready (rs := [10]) (by kernel_rfl) (by simp) ?_
            refine (AllReadyH.cons rfl (fun K hK => ?_) AllReadyH.nil)
            go_simp
            go_at_call 54
            refine (KS.out _ _ _ _ _ _ _ R3 R4 R5 (Nat.le_refl _) (Nat.le_refl _)).mono ?_
            rintro e V6 ⟨rfl, hy⟩
            go_wp2_with fail
            have zy := Ext.size hy
            have hE' := hE.trans hy
            refine hK.out _ _ hE' (fun hHeld => ?_)
            clear hK K
            (try simp only [Act.put, Ord.a, Ord.b, Ord.c])
            replace R3 := Mks.ext R3 hy
            replace R4 := Trk.Fxs.ext R4 hy
            replace R5 := Trk.Fxs.ext R5 hy
            replace P14 := P14.ext hy
            replace hE := hE'
            clear hE' hy
            refine Ord.K 11 36 ?_; refine Ord.K 12 48 ?_; refine Ord.K 13 49 ?_
            refine wpAnyH_ready (rs := [15]) (by kernel_rfl) (by simp) ?_
            refine (AllReadyH.cons rfl (fun K hK => ?_) AllReadyH.nil)
            obtain ⟨⟨r0, r1⟩, r2, r3⟩ := P14.two
            go_simp
            have hE' : Ext w3 ((V6.setCell ⟨V3.heap.size, 0, none⟩ (.int .i64 x0)).setCell ⟨V3.heap.size, 1, none⟩ (.int .i64 x1)) := ((hE.setNew (by first | omega | (simp; omega) | simp) _).setNew (by first | omega | (simp; omega) | simp) _)
            refine hK.out _ _ hE' (fun hHeld => ?_)
            clear hK K r0 r1 r2 r3
            (try simp only [Act.put, Ord.a, Ord.b, Ord.c])
            replace P14 := P14.set2 (u := .int .i64 x0) (v := .int .i64 x1)
            replace hE := hE'
            clear hE'
            generalize ((V6.setCell ⟨V3.heap.size, 0, none⟩ (.int .i64 x0)).setCell ⟨V3.heap.size, 1, none⟩ (.int .i64 x1)) = V7 at *
            refine Ord.K 16 15 ?_
            refine wpAnyH_done (by kernel_rfl) ?_ _
            go_wp2_with fail; go_meet; exact ⟨⟨_, rfl, P14⟩, rfl, hE⟩
        · go_simp
          have hy : Ext V2 (V2.alloc (.cells #[.int .i64 0, .int .i64 0] 102)) := (Ext.refl V2).alloc _
          have hE' := hE.trans hy
          refine hK.out _ _ hE' (fun hHeld => ?_)
          clear hK K
          (try simp only [Act.put, Ord.a, Ord.b, Ord.c])
          replace R3 := Mks.ext R3 hy
          have P14 : Box (V2.alloc (.cells #[.int .i64 0, .int .i64 0] 102)) V2.heap.size [.int .i64 0, .int .i64 0] := Box.new (vs := [.int .i64 0, .int .i64 0]) rfl
          have z14 := Ext.size hE
          have y14 : V2.heap.size < (V2.alloc (.cells #[.int .i64 0, .int .i64 0] 102)).heap.size := by simp
          replace hE := hE'
          clear hE' hy
          generalize V2.alloc (.cells #[.int .i64 0, .int .i64 0] 102) = V3 at *
          refine wpAnyH_ready (rs := [6]) (by kernel_rfl) (by simp) ?_
          refine (AllReadyH.cons rfl (fun K hK => ?_) AllReadyH.nil)
          go_simp
          go_at_call 51
          refine (toTrack_any a2 ca fs _ (HT.out.ext (X3.out.trans hE)) HL2.out).mono ?_
          rintro e V4 ⟨B4, rfl, -, O4, hy⟩
          go_wp2_with fail
          have zy := Ext.size hy
          have hE' := hE.trans hy
          refine hK.out _ _ hE' (fun hHeld => ?_)
          clear hK K
          (try simp only [Act.put, Ord.a, Ord.b, Ord.c])
          replace R3 := Mks.ext R3 hy
          replace P14 := P14.ext hy
          replace hE := hE'
          have R4 := O4.fxs HM2.out
          clear hE' hy
          refine wpAnyH_ready (rs := [8]) (by kernel_rfl) (by simp) ?_
          refine (AllReadyH.cons rfl (fun K hK => ?_) AllReadyH.nil)
          go_simp
          go_at_call 51
          refine (toTrack_any a3 cb gs _ (HU.out.ext (X3.out.trans hE)) HL3.out).mono ?_
          rintro e V5 ⟨B5, rfl, -, O5, hy⟩
          go_wp2_with fail
          have zy := Ext.size hy
          have hE' := hE.trans hy
          refine hK.out _ _ hE' (fun hHeld => ?_)
          clear hK K
          (try simp only [Act.put, Ord.a, Ord.b, Ord.c])
          replace R3 := Mks.ext R3 hy
          replace R4 := Trk.Fxs.ext R4 hy
          replace P14 := P14.ext hy
          replace hE := hE'
          have R5 := O5.fxs HM3.out
          clear hE' hy
          refine wpAnyH_ready (rs := [10]) (by kernel_rfl) (by simp) ?_
          refine (AllReadyH.cons rfl (fun K hK => ?_) AllReadyH.nil)
          go_simp
          go_at_call 54
          refine (KS.out _ _ _ _ _ _ _ R3 R4 R5 (Nat.le_refl _) (Nat.le_refl _)).mono ?_
          rintro e V6 ⟨rfl, hy⟩
          go_wp2_with fail
          have zy := Ext.size hy
          have hE' := hE.trans hy
          refine hK.out _ _ hE' (fun hHeld => ?_)
          clear hK K
          (try simp only [Act.put, Ord.a, Ord.b, Ord.c])
          replace R3 := Mks.ext R3 hy
          replace R4 := Trk.Fxs.ext R4 hy
          replace R5 := Trk.Fxs.ext R5 hy
          replace P14 := P14.ext hy
          replace hE := hE'
          clear hE' hy
          refine Ord.K 11 36 ?_; refine Ord.K 12 48 ?_; refine Ord.K 13 49 ?_
          refine wpAnyH_ready (rs := [15]) (by kernel_rfl) (by simp) ?_
          refine (AllReadyH.cons rfl (fun K hK => ?_) AllReadyH.nil)
          obtain ⟨⟨r0, r1⟩, r2, r3⟩ := P14.two
          go_simp
          have hE' : Ext w3 ((V6.setCell ⟨V2.heap.size, 0, none⟩ (.int .i64 x0)).setCell ⟨V2.heap.size, 1, none⟩ (.int .i64 x1)) := ((hE.setNew (by first | omega | (simp; omega) | simp) _).setNew (by first | omega | (simp; omega) | simp) _)
          refine hK.out _ _ hE' (fun hHeld => ?_)
          clear hK K r0 r1 r2 r3
          (try simp only [Act.put, Ord.a, Ord.b, Ord.c])
          replace P14 := P14.set2 (u := .int .i64 x0) (v := .int .i64 x1)
          replace hE := hE'
          clear hE'
          generalize ((V6.setCell ⟨V2.heap.size, 0, none⟩ (.int .i64 x0)).setCell ⟨V2.heap.size, 1, none⟩ (.int .i64 x1)) = V7 at *
          refine Ord.K 16 15 ?_
          refine wpAnyH_done (by kernel_rfl) ?_ _
          go_wp2_with fail; go_meet; exact ⟨⟨_, rfl, P14⟩, rfl, hE⟩
      · go_simp
        have hy : Ext V1 (V1.alloc (.cells #[.int .i64 0, .int .i64 0] 102)) := (Ext.refl V1).alloc _
        have hE' := hE.trans hy
        refine hK.out _ _ hE' (fun hHeld => ?_)
        clear hK K
        (try simp only [Act.put, Ord.a, Ord.b, Ord.c])
        have P14 : Box (V1.alloc (.cells #[.int .i64 0, .int .i64 0] 102)) V1.heap.size [.int .i64 0, .int .i64 0] := Box.new (vs := [.int .i64 0, .int .i64 0]) rfl
        have z14 := Ext.size hE
        have y14 : V1.heap.size < (V1.alloc (.cells #[.int .i64 0, .int .i64 0] 102)).heap.size := by simp
        replace hE := hE'
        clear hE' hy
        generalize V1.alloc (.cells #[.int .i64 0, .int .i64 0] 102) = V2 at *
        refine wpAnyH_ready (rs := [3]) (by kernel_rfl) (by simp) ?_
        refine (AllReadyH.cons rfl (fun K hK => ?_) AllReadyH.nil)
        go_simp
        go_at_call 40
        refine (toCourse_any l k a cap ms _ (HF.out.ext (X3.out.trans hE)) HL.out).mono ?_
        rintro e V3 ⟨B3, rfl, -, O3, hy⟩
        go_wp2_with fail
        have zy := Ext.size hy
        have hE' := hE.trans hy
        refine hK.out _ _ hE' (fun hHeld => ?_)
        clear hK K
        (try simp only [Act.put, Ord.a, Ord.b, Ord.c])
        replace P14 := P14.ext hy
        replace hE := hE'
        have R3 := O3.mks HM.out
        clear hE' hy
        refine wpAnyH_ready (rs := [6]) (by kernel_rfl) (by simp) ?_
        refine (AllReadyH.cons rfl (fun K hK => ?_) AllReadyH.nil)
        go_simp
        go_at_call 51
        refine (toTrack_any a2 ca fs _ (HT.out.ext (X3.out.trans hE)) HL2.out).mono ?_
        rintro e V4 ⟨B4, rfl, -, O4, hy⟩
        go_wp2_with fail
        have zy := Ext.size hy
        have hE' := hE.trans hy
        refine hK.out _ _ hE' (fun hHeld => ?_)
        clear hK K
        (try simp only [Act.put, Ord.a, Ord.b, Ord.c])
        replace R3 := Mks.ext R3 hy
        replace P14 := P14.ext hy
        replace hE := hE'
        have R4 := O4.fxs HM2.out
        clear hE' hy
        refine wpAnyH_ready (rs := [8]) (by kernel_rfl) (by simp) ?_
        refine (AllReadyH.cons rfl (fun K hK => ?_) AllReadyH.nil)
        go_simp
        go_at_call 51
        refine (toTrack_any a3 cb gs _ (HU.out.ext (X3.out.trans hE)) HL3.out).mono ?_
        rintro e V5 ⟨B5, rfl, -, O5, hy⟩
        go_wp2_with fail
        have zy := Ext.size hy
        have hE' := hE.trans hy
        refine hK.out _ _ hE' (fun hHeld => ?_)
        clear hK K
        (try simp only [Act.put, Ord.a, Ord.b, Ord.c])
        replace R3 := Mks.ext R3 hy
        replace R4 := Trk.Fxs.ext R4 hy
        replace P14 := P14.ext hy
        replace hE := hE'
        have R5 := O5.fxs HM3.out
        clear hE' hy
        refine wpAnyH_ready (rs := [10]) (by kernel_rfl) (by simp) ?_
        refine (AllReadyH.cons rfl (fun K hK => ?_) AllReadyH.nil)
        go_simp
        go_at_call 54
        refine (KS.out _ _ _ _ _ _ _ R3 R4 R5 (Nat.le_refl _) (Nat.le_refl _)).mono ?_
        rintro e V6 ⟨rfl, hy⟩
        go_wp2_with fail
        have zy := Ext.size hy
        have hE' := hE.trans hy
        refine hK.out _ _ hE' (fun hHeld => ?_)
        clear hK K
        (try simp only [Act.put, Ord.a, Ord.b, Ord.c])
        replace R3 := Mks.ext R3 hy
        replace R4 := Trk.Fxs.ext R4 hy
        replace R5 := Trk.Fxs.ext R5 hy
        replace P14 := P14.ext hy
        replace hE := hE'
        clear hE' hy
        refine Ord.K 11 36 ?_; refine Ord.K 12 48 ?_; refine Ord.K 13 49 ?_
        refine wpAnyH_ready (rs := [15]) (by kernel_rfl) (by simp) ?_
        refine (AllReadyH.cons rfl (fun K hK => ?_) AllReadyH.nil)
        obtain ⟨⟨r0, r1⟩, r2, r3⟩ := P14.two
        go_simp
        have hE' : Ext w3 ((V6.setCell ⟨V1.heap.size, 0, none⟩ (.int .i64 x0)).setCell ⟨V1.heap.size, 1, none⟩ (.int .i64 x1)) := ((hE.setNew (by first | omega | (simp; omega) | simp) _).setNew (by first | omega | (simp; omega) | simp) _)
        refine hK.out _ _ hE' (fun hHeld => ?_)
        clear hK K r0 r1 r2 r3
        (try simp only [Act.put, Ord.a, Ord.b, Ord.c])
        replace P14 := P14.set2 (u := .int .i64 x0) (v := .int .i64 x1)
        replace hE := hE'
        clear hE'
        generalize ((V6.setCell ⟨V1.heap.size, 0, none⟩ (.int .i64 x0)).setCell ⟨V1.heap.size, 1, none⟩ (.int .i64 x1)) = V7 at *
        refine Ord.K 16 15 ?_
        refine wpAnyH_done (by kernel_rfl) ?_ _
        go_wp2_with fail; go_meet; exact ⟨⟨_, rfl, P14⟩, rfl, hE⟩
    · go_simp
      have hy : Ext V0 (V0.alloc (.cells #[.int .i64 0, .int .i64 0] 102)) := (Ext.refl V0).alloc _
      have hE' := hE.trans hy
      refine hK.out _ _ hE' (fun hHeld => ?_)
      clear hK K
      (try simp only [Act.put, Ord.a, Ord.b, Ord.c])
      have P14 : Box (V0.alloc (.cells #[.int .i64 0, .int .i64 0] 102)) V0.heap.size [.int .i64 0, .int .i64 0] := Box.new (vs := [.int .i64 0, .int .i64 0]) rfl
      have z14 := Ext.size hE
      have y14 : V0.heap.size < (V0.alloc (.cells #[.int .i64 0, .int .i64 0] 102)).heap.size := by simp
      replace hE := hE'
      clear hE' hy
      generalize V0.alloc (.cells #[.int .i64 0, .int .i64 0] 102) = V1 at *
      refine wpAnyH_ready (rs := [1]) (by kernel_rfl) (by simp) ?_
      refine (AllReadyH.cons rfl (fun K hK => ?_) AllReadyH.nil)
      go_simp
      go_at_call 50
      refine (toWind_any x y _).mono ?_
      rintro e V2 ⟨rfl, hy⟩
      go_wp2_with fail
      have zy := Ext.size hy
      have hE' := hE.trans hy
      refine hK.out _ _ hE' (fun hHeld => ?_)
      clear hK K
      (try simp only [Act.put, Ord.a, Ord.b, Ord.c])
      replace P14 := P14.ext hy
      replace hE := hE'
      clear hE' hy
      refine wpAnyH_ready (rs := [3]) (by kernel_rfl) (by simp) ?_
      refine (AllReadyH.cons rfl (fun K hK => ?_) AllReadyH.nil)
      go_simp
      go_at_call 40
      refine (toCourse_any l k a cap ms _ (HF.out.ext (X3.out.trans hE)) HL.out).mono ?_
      rintro e V3 ⟨B3, rfl, -, O3, hy⟩
      go_wp2_with fail
      have zy := Ext.size hy
      have hE' := hE.trans hy
      refine hK.out _ _ hE' (fun hHeld => ?_)
      clear hK K
      (try simp only [Act.put, Ord.a, Ord.b, Ord.c])
      replace P14 := P14.ext hy
      replace hE := hE'
      have R3 := O3.mks HM.out
      clear hE' hy
      refine wpAnyH_ready (rs := [6]) (by kernel_rfl) (by simp) ?_
      refine (AllReadyH.cons rfl (fun K hK => ?_) AllReadyH.nil)
      go_simp
      go_at_call 51
      refine (toTrack_any a2 ca fs _ (HT.out.ext (X3.out.trans hE)) HL2.out).mono ?_
      rintro e V4 ⟨B4, rfl, -, O4, hy⟩
      go_wp2_with fail
      have zy := Ext.size hy
      have hE' := hE.trans hy
      refine hK.out _ _ hE' (fun hHeld => ?_)
      clear hK K
      (try simp only [Act.put, Ord.a, Ord.b, Ord.c])
      replace R3 := Mks.ext R3 hy
      replace P14 := P14.ext hy
      replace hE := hE'
      have R4 := O4.fxs HM2.out
      clear hE' hy
      refine wpAnyH_ready (rs := [8]) (by kernel_rfl) (by simp) ?_
      refine (AllReadyH.cons rfl (fun K hK => ?_) AllReadyH.nil)
      go_simp
      go_at_call 51
      refine (toTrack_any a3 cb gs _ (HU.out.ext (X3.out.trans hE)) HL3.out).mono ?_
      rintro e V5 ⟨B5, rfl, -, O5, hy⟩
      go_wp2_with fail
      have zy := Ext.size hy
      have hE' := hE.trans hy
      refine hK.out _ _ hE' (fun hHeld => ?_)
      clear hK K
      (try simp only [Act.put, Ord.a, Ord.b, Ord.c])
      replace R3 := Mks.ext R3 hy
      replace R4 := Trk.Fxs.ext R4 hy
      replace P14 := P14.ext hy
      replace hE := hE'
      have R5 := O5.fxs HM3.out
      clear hE' hy
      refine wpAnyH_ready (rs := [10]) (by kernel_rfl) (by simp) ?_
      refine (AllReadyH.cons rfl (fun K hK => ?_) AllReadyH.nil)
      go_simp
      go_at_call 54
      refine (KS.out _ _ _ _ _ _ _ R3 R4 R5 (Nat.le_refl _) (Nat.le_refl _)).mono ?_
      rintro e V6 ⟨rfl, hy⟩
      go_wp2_with fail
      have zy := Ext.size hy
      have hE' := hE.trans hy
      refine hK.out _ _ hE' (fun hHeld => ?_)
      clear hK K
      (try simp only [Act.put, Ord.a, Ord.b, Ord.c])
      replace R3 := Mks.ext R3 hy
      replace R4 := Trk.Fxs.ext R4 hy
      replace R5 := Trk.Fxs.ext R5 hy
      replace P14 := P14.ext hy
      replace hE := hE'
      clear hE' hy
      refine Ord.K 11 36 ?_; refine Ord.K 12 48 ?_; refine Ord.K 13 49 ?_
      refine wpAnyH_ready (rs := [15]) (by kernel_rfl) (by simp) ?_
      refine (AllReadyH.cons rfl (fun K hK => ?_) AllReadyH.nil)
      obtain ⟨⟨r0, r1⟩, r2, r3⟩ := P14.two
      go_simp
      have hE' : Ext w3 ((V6.setCell ⟨V0.heap.size, 0, none⟩ (.int .i64 x0)).setCell ⟨V0.heap.size, 1, none⟩ (.int .i64 x1)) := ((hE.setNew (by first | omega | (simp; omega) | simp) _).setNew (by first | omega | (simp; omega) | simp) _)
      refine hK.out _ _ hE' (fun hHeld => ?_)
      clear hK K r0 r1 r2 r3
      (try simp only [Act.put, Ord.a, Ord.b, Ord.c])
      replace P14 := P14.set2 (u := .int .i64 x0) (v := .int .i64 x1)
      replace hE := hE'
      clear hE'
      generalize ((V6.setCell ⟨V0.heap.size, 0, none⟩ (.int .i64 x0)).setCell ⟨V0.heap.size, 1, none⟩ (.int .i64 x1)) = V7 at *
      refine Ord.K 16 15 ?_
      refine wpAnyH_done (by kernel_rfl) ?_ _
      go_wp2_with fail; go_meet; exact ⟨⟨_, rfl, P14⟩, rfl, hE⟩
  case rest =>
  obtain ⟨⟨BQ, rfl, Q1⟩, rfl, X4⟩ := hcut
  rename World => w16
  have HQ1 := Lib.hid Q1
  have X5 := Lib.hid (X3.out.trans X4)
  clear Q1 X4 B2 q0 q1 e0 e1 e2 e3 e4 e5 e6 e7 e8 dt du
  obtain ⟨⟨p0, p1, p2, p3, p4, p5, p6, p7, p8⟩, _⟩ := Box.nine (BB.out.ext X5.out)
  go_wp2_with fail
  refine (toCourse_any _ _ _ _ _ _ (HF.out.ext X5.out) HL.out).mono ?_
  rintro e w6 ⟨B6, rfl, l6, O6, h⟩
  have EX := Lib.hid h
  have P6 := Lib.hid O6
  replace HQ1 := Lib.hid (HQ1.out.ext h)
  clear h O6 p0 p1 p2 p3 p4 p5 p6 p7 p8 l6
  have c9 : ∀ A, (w6.alloc A).cell? ⟨w.heap.size + 1 + 1, 0, none⟩ = some (.slice a2 fs.length ca) := fun A => ((Ext.refl w6).alloc A).cellOf ((X5.out.trans EX.out).cellOf CT.out)
  go_wp2_with fail
  refine (toTrack_any _ _ _ _ (HT.out.ext ((X5.out.trans EX.out).alloc _)) HL2.out).mono ?_
  rintro e w7 ⟨B7, rfl, l7, O7, h⟩
  have BX := Lib.hid ((Box.new (w := w6) (vs := cellsC l k (.slice (some ⟨B6, 0, none⟩) ms.length ms.length)) (t := 30) rfl).ext h)
  replace h := ((Ext.refl w6).alloc (.cells (cellsC l k (.slice (some ⟨B6, 0, none⟩) ms.length ms.length)).toArray 30)).trans h
  replace P6 := Lib.hid (P6.out.ext h)
  replace EX := Lib.hid (EX.out.trans h)
  replace HQ1 := Lib.hid (HQ1.out.ext h)
  have P7 := Lib.hid O7
  clear h O7 c9 l7
  generalize hbx : w6.heap.size = bx at *
  clear hbx
  have c9 : ∀ A, (w7.alloc A).cell? ⟨w.heap.size + 1 + 1 + 1, 0, none⟩ = some (.slice a3 gs.length cb) := fun A => ((Ext.refl w7).alloc A).cellOf ((X5.out.trans EX.out).cellOf CU.out)
  go_wp2_with fail
  refine (toTrack_any _ _ _ _ (HU.out.ext ((X5.out.trans EX.out).alloc _)) HL3.out).mono ?_
  rintro e w8 ⟨B8, rfl, l8, O8, h⟩
  have BT := Lib.hid ((Box.new (w := w7) (vs := [.slice (some ⟨B7, 0, none⟩) fs.length fs.length]) (t := 33) rfl).ext h)
  replace h := ((Ext.refl w7).alloc (.cells #[.slice (some ⟨B7, 0, none⟩) fs.length fs.length] 33)).trans h
  replace P6 := Lib.hid (P6.out.ext h)
  replace P7 := Lib.hid (P7.out.ext h)
  replace BX := Lib.hid (BX.out.ext h)
  replace EX := Lib.hid (EX.out.trans h)
  replace HQ1 := Lib.hid (HQ1.out.ext h)
  have P8 := Lib.hid O8
  clear h O8 c9 l8
  generalize hbt : w7.heap.size = bt at *
  clear hbt
  obtain ⟨V9, hV9⟩ : ∃ V9, V9 = w8.alloc (.cells #[.slice (some ⟨B8, 0, none⟩) gs.length gs.length] 33) := ⟨_, rfl⟩
  have h : Ext w8 V9 := hV9 ▸ (Ext.refl _).alloc _
  have BU := Lib.hid (show Box V9 w8.heap.size [.slice (some ⟨B8, 0, none⟩) gs.length gs.length] from hV9 ▸ Box.new rfl)
  replace P6 := Lib.hid (P6.out.ext h)
  replace P7 := Lib.hid (P7.out.ext h)
  replace BX := Lib.hid (BX.out.ext h)
  replace EX := Lib.hid (EX.out.trans h)
  replace HQ1 := Lib.hid (HQ1.out.ext h)
  replace P8 := Lib.hid (P8.out.ext h)
  replace BT := Lib.hid (BT.out.ext h)
  go_upto_region 15 with fail
  rw [← hV9]
  clear hV9 h
  generalize hbu : w8.heap.size = bu at *
  clear hbu
  have f0 : ∀ w', Ext V9 w' → w'.cell? ⟨bx, 0, none⟩ = some (.int .i64 l.a) := fun w' h => h.cellOf (BX.out 0 _ rfl).1
  have f1 : ∀ w', Ext V9 w' → w'.cell? ⟨bx, 1, none⟩ = some (.int .i64 l.b) := fun w' h => h.cellOf (BX.out 1 _ rfl).1
  have f2 : ∀ w', Ext V9 w' → w'.cell? ⟨bx, 2, none⟩ = some (.int .i64 l.c) := fun w' h => h.cellOf (BX.out 2 _ rfl).1
  have f3 : ∀ w', Ext V9 w' → w'.cell? ⟨bx, 3, none⟩ = some (.int .i64 l.d) := fun w' h => h.cellOf (BX.out 3 _ rfl).1
  have f4 : ∀ w', Ext V9 w' → w'.cell? ⟨bx, 4, none⟩ = some (.int .i64 k.a) := fun w' h => h.cellOf (BX.out 4 _ rfl).1
  have f5 : ∀ w', Ext V9 w' → w'.cell? ⟨bx, 5, none⟩ = some (.int .i64 k.b) := fun w' h => h.cellOf (BX.out 5 _ rfl).1
  have f6 : ∀ w', Ext V9 w' → w'.cell? ⟨bx, 6, none⟩ = some (.int .i64 k.c) := fun w' h => h.cellOf (BX.out 6 _ rfl).1
  have f7 : ∀ w', Ext V9 w' → w'.cell? ⟨bx, 7, none⟩ = some (.int .i64 k.d) := fun w' h => h.cellOf (BX.out 7 _ rfl).1
  have f8 : ∀ w', Ext V9 w' → w'.cell? ⟨bx, 8, none⟩ = some (.slice (some ⟨B6, 0, none⟩) ms.length ms.length) := fun w' h => h.cellOf (BX.out 8 _ rfl).1
  have g1 : ∀ w', Ext V9 w' → w'.cell? ⟨bt, 0, none⟩ = some (.slice (some ⟨B7, 0, none⟩) fs.length fs.length) := fun w' h => h.cellOf (BT.out 0 _ rfl).1
  have g2 : ∀ w', Ext V9 w' → w'.cell? ⟨bu, 0, none⟩ = some (.slice (some ⟨B8, 0, none⟩) gs.length gs.length) := fun w' h => h.cellOf (BU.out 0 _ rfl).1
  have q0 : ∀ w', Ext V9 w' → w'.cell? ⟨w.heap.size, 0, none⟩ = some (.int .i64 x) := fun w' h => h.cellOf ((X5.out.trans EX.out).cellOf CW0.out)
  have q1 : ∀ w', Ext V9 w' → w'.cell? ⟨w.heap.size, 1, none⟩ = some (.int .i64 y) := fun w' h => h.cellOf ((X5.out.trans EX.out).cellOf CW1.out)
  have hr9 := Ext.refl V9
  go_cut [19, 20] (fun s1 s2 wx => (∃ B, s1 = .pointer (some ⟨B, 0, none⟩) ∧ Box wx B [.int .i64 x0, .int .i64 x1]) ∧ s2 = .int .i64 ck ∧ Ext V9 wx)
  case first =>
    refine wp_region_held_drew (S := fun w' => Ext V9 w') (by kernel_rfl) (by (try dsimp only); exact Ext.drew (Ext.refl V9)) (fun hHeld => ?_)
    have hE : Ext V9 V9.drew := Ext.drew (Ext.refl V9)
    obtain ⟨V0, hV0⟩ : ∃ V0, V0 = V9.drew := ⟨_, rfl⟩
    rw [← hV0] at hE hHeld ⊢
    clear hV0
    refine Ord.K 0 57 ?_; refine Ord.K 2 59 ?_; refine Ord.K 3 60 ?_; refine Ord.K 4 61 ?_; refine Ord.K 5 62 ?_; refine Ord.K 6 63 ?_
    refine wpAnyH_ready (rs := [1, 11]) (by kernel_rfl) (by simp) ?_
    refine (AllReadyH.cons rfl (fun K hK => ?_) (AllReadyH.cons rfl (fun K hK => ?_) AllReadyH.nil))
    · go_simp
      go_at_call 50
      refine (toWind_any x y _).mono ?_
      rintro e V1 ⟨rfl, hy⟩
      go_wp2_with fail
      have zy := Ext.size hy
      have hE' := hE.trans hy
      refine hK.out _ _ hE' (fun hHeld => ?_)
      clear hK K
      (try simp only [Act.put, Ord.a, Ord.b, Ord.c])
      replace hE := hE'
      clear hE' hy
      refine wpAnyH_ready (rs := [7, 11]) (by kernel_rfl) (by simp) ?_
      refine (AllReadyH.cons rfl (fun K hK => ?_) (AllReadyH.cons rfl (fun K hK => ?_) AllReadyH.nil))
      · go_simp
        go_at_call 55
        refine (KI.out _ _ _ _ _ _ _ ((P6.out.mks HM.out).ext hE) ((P7.out.fxs HM2.out).ext hE) ((P8.out.fxs HM3.out).ext hE) (Nat.le_refl _) (Nat.le_refl _)).mono ?_
        rintro e V2 ⟨rfl, hy⟩
        go_wp2_with fail
        have zy := Ext.size hy
        have hE' := hE.trans hy
        refine hK.out _ _ hE' (fun hHeld => ?_)
        clear hK K
        (try simp only [Act.put, Ord.a, Ord.b, Ord.c])
        replace hE := hE'
        clear hE' hy
        refine Ord.K 8 56 ?_; refine Ord.K 9 65 ?_; refine Ord.K 10 66 ?_
        refine wpAnyH_ready (rs := [11]) (by kernel_rfl) (by simp) ?_
        refine (AllReadyH.cons rfl (fun K hK => ?_) AllReadyH.nil)
        go_simp
        have hy : Ext V2 (V2.alloc (.cells #[.int .i64 0, .int .i64 0] 102)) := (Ext.refl V2).alloc _
        have hE' := hE.trans hy
        refine hK.out _ _ hE' (fun hHeld => ?_)
        clear hK K
        (try simp only [Act.put, Ord.a, Ord.b, Ord.c])
        have P11 : Box (V2.alloc (.cells #[.int .i64 0, .int .i64 0] 102)) V2.heap.size [.int .i64 0, .int .i64 0] := Box.new (vs := [.int .i64 0, .int .i64 0]) rfl
        have z11 := Ext.size hE
        have y11 : V2.heap.size < (V2.alloc (.cells #[.int .i64 0, .int .i64 0] 102)).heap.size := by simp
        replace hE := hE'
        clear hE' hy
        generalize V2.alloc (.cells #[.int .i64 0, .int .i64 0] 102) = V3 at *
        refine wpAnyH_ready (rs := [12]) (by kernel_rfl) (by simp) ?_
        refine (AllReadyH.cons rfl (fun K hK => ?_) AllReadyH.nil)
        obtain ⟨⟨r0, r1⟩, r2, r3⟩ := P11.two
        go_simp
        have hE' : Ext V9 ((V3.setCell ⟨V2.heap.size, 0, none⟩ (.int .i64 x0)).setCell ⟨V2.heap.size, 1, none⟩ (.int .i64 x1)) := ((hE.setNew (by first | omega | (simp; omega) | simp) _).setNew (by first | omega | (simp; omega) | simp) _)
        refine hK.out _ _ hE' (fun hHeld => ?_)
        clear hK K r0 r1 r2 r3
        (try simp only [Act.put, Ord.a, Ord.b, Ord.c])
        replace P11 := P11.set2 (u := .int .i64 x0) (v := .int .i64 x1)
        replace hE := hE'
        clear hE'
        generalize ((V3.setCell ⟨V2.heap.size, 0, none⟩ (.int .i64 x0)).setCell ⟨V2.heap.size, 1, none⟩ (.int .i64 x1)) = V4 at *
        refine Ord.K 13 20 ?_
        refine wpAnyH_done (by kernel_rfl) ?_ _
        go_wp2_with fail; go_meet; exact ⟨⟨_, rfl, P11⟩, rfl, hE⟩
      · go_simp
        have hy : Ext V1 (V1.alloc (.cells #[.int .i64 0, .int .i64 0] 102)) := (Ext.refl V1).alloc _
        have hE' := hE.trans hy
        refine hK.out _ _ hE' (fun hHeld => ?_)
        clear hK K
        (try simp only [Act.put, Ord.a, Ord.b, Ord.c])
        have P11 : Box (V1.alloc (.cells #[.int .i64 0, .int .i64 0] 102)) V1.heap.size [.int .i64 0, .int .i64 0] := Box.new (vs := [.int .i64 0, .int .i64 0]) rfl
        have z11 := Ext.size hE
        have y11 : V1.heap.size < (V1.alloc (.cells #[.int .i64 0, .int .i64 0] 102)).heap.size := by simp
        replace hE := hE'
        clear hE' hy
        generalize V1.alloc (.cells #[.int .i64 0, .int .i64 0] 102) = V2 at *
        refine wpAnyH_ready (rs := [7]) (by kernel_rfl) (by simp) ?_
        refine (AllReadyH.cons rfl (fun K hK => ?_) AllReadyH.nil)
        go_simp
        go_at_call 55
        refine (KI.out _ _ _ _ _ _ _ ((P6.out.mks HM.out).ext hE) ((P7.out.fxs HM2.out).ext hE) ((P8.out.fxs HM3.out).ext hE) (Nat.le_refl _) (Nat.le_refl _)).mono ?_
        rintro e V3 ⟨rfl, hy⟩
        go_wp2_with fail
        have zy := Ext.size hy
        have hE' := hE.trans hy
        refine hK.out _ _ hE' (fun hHeld => ?_)
        clear hK K
        (try simp only [Act.put, Ord.a, Ord.b, Ord.c])
        replace P11 := P11.ext hy
        replace hE := hE'
        clear hE' hy
        refine Ord.K 8 56 ?_; refine Ord.K 9 65 ?_; refine Ord.K 10 66 ?_
        refine wpAnyH_ready (rs := [12]) (by kernel_rfl) (by simp) ?_
        refine (AllReadyH.cons rfl (fun K hK => ?_) AllReadyH.nil)
        obtain ⟨⟨r0, r1⟩, r2, r3⟩ := P11.two
        go_simp
        have hE' : Ext V9 ((V3.setCell ⟨V1.heap.size, 0, none⟩ (.int .i64 x0)).setCell ⟨V1.heap.size, 1, none⟩ (.int .i64 x1)) := ((hE.setNew (by first | omega | (simp; omega) | simp) _).setNew (by first | omega | (simp; omega) | simp) _)
        refine hK.out _ _ hE' (fun hHeld => ?_)
        clear hK K r0 r1 r2 r3
        (try simp only [Act.put, Ord.a, Ord.b, Ord.c])
        replace P11 := P11.set2 (u := .int .i64 x0) (v := .int .i64 x1)
        replace hE := hE'
        clear hE'
        generalize ((V3.setCell ⟨V1.heap.size, 0, none⟩ (.int .i64 x0)).setCell ⟨V1.heap.size, 1, none⟩ (.int .i64 x1)) = V4 at *
        refine Ord.K 13 20 ?_
        refine wpAnyH_done (by kernel_rfl) ?_ _
        go_wp2_with fail; go_meet; exact ⟨⟨_, rfl, P11⟩, rfl, hE⟩
    · go_simp
      have hy : Ext V0 (V0.alloc (.cells #[.int .i64 0, .int .i64 0] 102)) := (Ext.refl V0).alloc _
      have hE' := hE.trans hy
      refine hK.out _ _ hE' (fun hHeld => ?_)
      clear hK K
      (try simp only [Act.put, Ord.a, Ord.b, Ord.c])
      have P11 : Box (V0.alloc (.cells #[.int .i64 0, .int .i64 0] 102)) V0.heap.size [.int .i64 0, .int .i64 0] := Box.new (vs := [.int .i64 0, .int .i64 0]) rfl
      have z11 := Ext.size hE
      have y11 : V0.heap.size < (V0.alloc (.cells #[.int .i64 0, .int .i64 0] 102)).heap.size := by simp
      replace hE := hE'
      clear hE' hy
      generalize V0.alloc (.cells #[.int .i64 0, .int .i64 0] 102) = V1 at *
      refine wpAnyH_ready (rs := [1]) (by kernel_rfl) (by simp) ?_
      refine (AllReadyH.cons rfl (fun K hK => ?_) AllReadyH.nil)
      go_simp
      go_at_call 50
      refine (toWind_any x y _).mono ?_
      rintro e V2 ⟨rfl, hy⟩
      go_wp2_with fail
      have zy := Ext.size hy
      have hE' := hE.trans hy
      refine hK.out _ _ hE' (fun hHeld => ?_)
      clear hK K
      (try simp only [Act.put, Ord.a, Ord.b, Ord.c])
      replace P11 := P11.ext hy
      replace hE := hE'
      clear hE' hy
      refine wpAnyH_ready (rs := [7]) (by kernel_rfl) (by simp) ?_
      refine (AllReadyH.cons rfl (fun K hK => ?_) AllReadyH.nil)
      go_simp
      go_at_call 55
      refine (KI.out _ _ _ _ _ _ _ ((P6.out.mks HM.out).ext hE) ((P7.out.fxs HM2.out).ext hE) ((P8.out.fxs HM3.out).ext hE) (Nat.le_refl _) (Nat.le_refl _)).mono ?_
      rintro e V3 ⟨rfl, hy⟩
      go_wp2_with fail
      have zy := Ext.size hy
      have hE' := hE.trans hy
      refine hK.out _ _ hE' (fun hHeld => ?_)
      clear hK K
      (try simp only [Act.put, Ord.a, Ord.b, Ord.c])
      replace P11 := P11.ext hy
      replace hE := hE'
      clear hE' hy
      refine Ord.K 8 56 ?_; refine Ord.K 9 65 ?_; refine Ord.K 10 66 ?_
      refine wpAnyH_ready (rs := [12]) (by kernel_rfl) (by simp) ?_
      refine (AllReadyH.cons rfl (fun K hK => ?_) AllReadyH.nil)
      obtain ⟨⟨r0, r1⟩, r2, r3⟩ := P11.two
      go_simp
      have hE' : Ext V9 ((V3.setCell ⟨V0.heap.size, 0, none⟩ (.int .i64 x0)).setCell ⟨V0.heap.size, 1, none⟩ (.int .i64 x1)) := ((hE.setNew (by first | omega | (simp; omega) | simp) _).setNew (by first | omega | (simp; omega) | simp) _)
      refine hK.out _ _ hE' (fun hHeld => ?_)
      clear hK K r0 r1 r2 r3
      (try simp only [Act.put, Ord.a, Ord.b, Ord.c])
      replace P11 := P11.set2 (u := .int .i64 x0) (v := .int .i64 x1)
      replace hE := hE'
      clear hE'
      generalize ((V3.setCell ⟨V0.heap.size, 0, none⟩ (.int .i64 x0)).setCell ⟨V0.heap.size, 1, none⟩ (.int .i64 x1)) = V4 at *
      refine Ord.K 13 20 ?_
      refine wpAnyH_done (by kernel_rfl) ?_ _
      go_wp2_with fail; go_meet; exact ⟨⟨_, rfl, P11⟩, rfl, hE⟩
  case rest =>
  obtain ⟨⟨BQ2, rfl, Q2⟩, rfl, X9⟩ := hcut
  rename World => w9a
  have Q1 := HQ1.out.ext X9
  obtain ⟨⟨c0, c1⟩, _⟩ := Q1.two
  obtain ⟨⟨d0, d1⟩, _⟩ := Q2.two
  clear Q1 Q2 HQ1 hr9 f0 f1 f2 f3 f4 f5 f6 f7 f8 g1 g2 q0 q1
  go_wp2_with fail
  refine (Rmx.eqRoom_same _ _ _).mono ?_
  rintro e w9 ⟨rfl, hy⟩
  have h : Ext V9 w9 := X9.trans hy
  clear hy X9 c0 c1 d0 d1
  replace P6 := Lib.hid (P6.out.ext h)
  replace P7 := Lib.hid (P7.out.ext h)
  replace BX := Lib.hid (BX.out.ext h)
  replace BT := Lib.hid (BT.out.ext h)
  replace P8 := Lib.hid (P8.out.ext h)
  replace BU := Lib.hid (BU.out.ext h)
  replace EX := Lib.hid (EX.out.trans h)
  clear h
  have B8' := Lib.hid (BB.out.ext (X5.out.trans EX.out))
  have e0 : ∀ w', Ext w9 w' → w'.cell? ⟨w.heap.size + 1, 0, none⟩ = some (.int .i64 l.a) := fun w' h => h.cellOf (B8'.out 0 _ rfl).1
  have e1 : ∀ w', Ext w9 w' → w'.cell? ⟨w.heap.size + 1, 1, none⟩ = some (.int .i64 l.b) := fun w' h => h.cellOf (B8'.out 1 _ rfl).1
  have e2 : ∀ w', Ext w9 w' → w'.cell? ⟨w.heap.size + 1, 2, none⟩ = some (.int .i64 l.c) := fun w' h => h.cellOf (B8'.out 2 _ rfl).1
  have e3 : ∀ w', Ext w9 w' → w'.cell? ⟨w.heap.size + 1, 3, none⟩ = some (.int .i64 l.d) := fun w' h => h.cellOf (B8'.out 3 _ rfl).1
  have e4 : ∀ w', Ext w9 w' → w'.cell? ⟨w.heap.size + 1, 4, none⟩ = some (.int .i64 k.a) := fun w' h => h.cellOf (B8'.out 4 _ rfl).1
  have e5 : ∀ w', Ext w9 w' → w'.cell? ⟨w.heap.size + 1, 5, none⟩ = some (.int .i64 k.b) := fun w' h => h.cellOf (B8'.out 5 _ rfl).1
  have e6 : ∀ w', Ext w9 w' → w'.cell? ⟨w.heap.size + 1, 6, none⟩ = some (.int .i64 k.c) := fun w' h => h.cellOf (B8'.out 6 _ rfl).1
  have e7 : ∀ w', Ext w9 w' → w'.cell? ⟨w.heap.size + 1, 7, none⟩ = some (.int .i64 k.d) := fun w' h => h.cellOf (B8'.out 7 _ rfl).1
  have e8 : ∀ w', Ext w9 w' → w'.cell? ⟨w.heap.size + 1, 8, none⟩ = some (.slice a ms.length cap) := fun w' h => h.cellOf (B8'.out 8 _ rfl).1
  have f0 : ∀ w', Ext w9 w' → w'.cell? ⟨bx, 0, none⟩ = some (.int .i64 l.a) := fun w' h => h.cellOf (BX.out 0 _ rfl).1
  have f1 : ∀ w', Ext w9 w' → w'.cell? ⟨bx, 1, none⟩ = some (.int .i64 l.b) := fun w' h => h.cellOf (BX.out 1 _ rfl).1
  have f2 : ∀ w', Ext w9 w' → w'.cell? ⟨bx, 2, none⟩ = some (.int .i64 l.c) := fun w' h => h.cellOf (BX.out 2 _ rfl).1
  have f3 : ∀ w', Ext w9 w' → w'.cell? ⟨bx, 3, none⟩ = some (.int .i64 l.d) := fun w' h => h.cellOf (BX.out 3 _ rfl).1
  have f4 : ∀ w', Ext w9 w' → w'.cell? ⟨bx, 4, none⟩ = some (.int .i64 k.a) := fun w' h => h.cellOf (BX.out 4 _ rfl).1
  have f5 : ∀ w', Ext w9 w' → w'.cell? ⟨bx, 5, none⟩ = some (.int .i64 k.b) := fun w' h => h.cellOf (BX.out 5 _ rfl).1
  have f6 : ∀ w', Ext w9 w' → w'.cell? ⟨bx, 6, none⟩ = some (.int .i64 k.c) := fun w' h => h.cellOf (BX.out 6 _ rfl).1
  have f7 : ∀ w', Ext w9 w' → w'.cell? ⟨bx, 7, none⟩ = some (.int .i64 k.d) := fun w' h => h.cellOf (BX.out 7 _ rfl).1
  have f8 : ∀ w', Ext w9 w' → w'.cell? ⟨bx, 8, none⟩ = some (.slice (some ⟨B6, 0, none⟩) ms.length ms.length) := fun w' h => h.cellOf (BX.out 8 _ rfl).1
  have hr9 := Ext.refl w9
  go_upto_region 18 with fail
  refine wp_region_held_drew (S := (fun w' => Ext w9 w')) (by kernel_rfl) (by (try dsimp only); first | go_keep | exact (Ext.refl _).drew | exact Res.new2.drew | exact Res.new4.drew | exact ResB.drew (by assumption) | exact ResC.drew (by assumption) | assumption | exact Ext.drew (by assumption) | exact Res.drew (by assumption)) (fun hHeld => ?_)
  refine Ord.K 0 76 ?_
  refine Ord.K 1 77 ?_
  (refine wpAnyH_ready (rs := [2]) (by kernel_rfl) (by simp) ?_; refine AllReadyH.cons rfl (fun K hK => ?_) AllReadyH.nil; go_simp; (first | (go_at_call 40; refine (toCourse_any _ _ _ _ _ _ (HF.out.ext (X5.out.trans (EX.out.trans (by first | assumption | exact (Ext.refl _).drew)))) HL.out).mono ?_; rintro e w10 ⟨B10, rfl, -, O10, hy⟩) | (go_at_call 43; refine (eqCourse_same _ _ _ _ _ _ _ _ ((P6.out.ext (by assumption)).mks HM.out) (O10.mks HM.out)).mono ?_; rintro e w11 ⟨rfl, hy⟩)); go_wp2_with fail; (refine hK.out _ _ (by first | assumption | exact Ext.trans (by assumption) hy | exact Res.ext (by assumption) hy | exact ResB.ext (by assumption) hy | exact ResC.ext (by assumption) hy | (go_split_ands; (repeat' apply And.intro) <;> exact Ext.cellOf hy (by assumption))) (fun hHeld => ?_)); clear hK K; (try simp only [Act.put, Ord.a, Ord.b, Ord.c]))
  (refine wpAnyH_ready (rs := [3]) (by kernel_rfl) (by simp) ?_; refine AllReadyH.cons rfl (fun K hK => ?_) AllReadyH.nil; go_simp; (first | (go_at_call 40; refine (toCourse_any _ _ _ _ _ _ (HF.out.ext (X5.out.trans (EX.out.trans (by first | assumption | exact (Ext.refl _).drew)))) HL.out).mono ?_; rintro e w10 ⟨B10, rfl, -, O10, hy⟩) | (go_at_call 43; refine (eqCourse_same _ _ _ _ _ _ _ _ ((P6.out.ext (by assumption)).mks HM.out) (O10.mks HM.out)).mono ?_; rintro e w11 ⟨rfl, hy⟩)); go_wp2_with fail; (refine hK.out _ _ (by first | assumption | exact Ext.trans (by assumption) hy | exact Res.ext (by assumption) hy | exact ResB.ext (by assumption) hy | exact ResC.ext (by assumption) hy | (go_split_ands; (repeat' apply And.intro) <;> exact Ext.cellOf hy (by assumption))) (fun hHeld => ?_)); clear hK K; (try simp only [Act.put, Ord.a, Ord.b, Ord.c]))
  refine Ord.K 4 80 ?_
  refine wpAnyH_done (by kernel_rfl) ?_ _
  have h : Ext w9 w11 := hHeld
  clear hHeld hy hr9 O10 B8' e0 e1 e2 e3 e4 e5 e6 e7 e8 f0 f1 f2 f3 f4 f5 f6 f7 f8
  replace P6 := Lib.hid (P6.out.ext h)
  replace P7 := Lib.hid (P7.out.ext h)
  replace BX := Lib.hid (BX.out.ext h)
  replace BT := Lib.hid (BT.out.ext h)
  replace P8 := Lib.hid (P8.out.ext h)
  replace BU := Lib.hid (BU.out.ext h)
  replace EX := Lib.hid (EX.out.trans h)
  clear h
  have d1 : ∀ w', Ext w11 w' → w'.cell? ⟨w.heap.size + 1 + 1, 0, none⟩ = some (.slice a2 fs.length ca) := fun w' h => h.cellOf ((X5.out.trans EX.out).cellOf CT.out)
  have d2 : ∀ w', Ext w11 w' → w'.cell? ⟨bt, 0, none⟩ = some (.slice (some ⟨B7, 0, none⟩) fs.length fs.length) := fun w' h => h.cellOf (BT.out 0 _ rfl).1
  have hr9 := Ext.refl w11
  go_upto_region 20 with fail
  refine wp_region_held_drew (S := (fun w' => Ext w11 w')) (by kernel_rfl) (by (try dsimp only); first | go_keep | exact (Ext.refl _).drew | exact Res.new2.drew | exact Res.new4.drew | exact ResB.drew (by assumption) | exact ResC.drew (by assumption) | assumption | exact Ext.drew (by assumption) | exact Res.drew (by assumption)) (fun hHeld => ?_)
  refine Ord.K 0 81 ?_
  refine Ord.K 1 82 ?_
  (refine wpAnyH_ready (rs := [2]) (by kernel_rfl) (by simp) ?_; refine AllReadyH.cons rfl (fun K hK => ?_) AllReadyH.nil; go_simp; (first | (go_at_call 51; refine (toTrack_any _ _ _ _ (HT.out.ext (X5.out.trans (EX.out.trans (by first | assumption | exact (Ext.refl _).drew)))) HL2.out).mono ?_; rintro e w12 ⟨B12, rfl, -, O12, hy⟩) | (go_at_call 53; refine (eqTrack_same _ _ _ _ _ _ ((P7.out.ext (by assumption)).fxs HM2.out) (O12.fxs HM2.out)).mono ?_; rintro e w13 ⟨rfl, hy⟩)); go_wp2_with fail; (refine hK.out _ _ (by first | assumption | exact Ext.trans (by assumption) hy | exact Res.ext (by assumption) hy | exact ResB.ext (by assumption) hy | exact ResC.ext (by assumption) hy | (go_split_ands; (repeat' apply And.intro) <;> exact Ext.cellOf hy (by assumption))) (fun hHeld => ?_)); clear hK K; (try simp only [Act.put, Ord.a, Ord.b, Ord.c]))
  (refine wpAnyH_ready (rs := [3]) (by kernel_rfl) (by simp) ?_; refine AllReadyH.cons rfl (fun K hK => ?_) AllReadyH.nil; go_simp; (first | (go_at_call 51; refine (toTrack_any _ _ _ _ (HT.out.ext (X5.out.trans (EX.out.trans (by first | assumption | exact (Ext.refl _).drew)))) HL2.out).mono ?_; rintro e w12 ⟨B12, rfl, -, O12, hy⟩) | (go_at_call 53; refine (eqTrack_same _ _ _ _ _ _ ((P7.out.ext (by assumption)).fxs HM2.out) (O12.fxs HM2.out)).mono ?_; rintro e w13 ⟨rfl, hy⟩)); go_wp2_with fail; (refine hK.out _ _ (by first | assumption | exact Ext.trans (by assumption) hy | exact Res.ext (by assumption) hy | exact ResB.ext (by assumption) hy | exact ResC.ext (by assumption) hy | (go_split_ands; (repeat' apply And.intro) <;> exact Ext.cellOf hy (by assumption))) (fun hHeld => ?_)); clear hK K; (try simp only [Act.put, Ord.a, Ord.b, Ord.c]))
  refine Ord.K 4 85 ?_
  refine wpAnyH_done (by kernel_rfl) ?_ _
  have h : Ext w11 w13 := hHeld
  clear hHeld hy hr9 O12 d1 d2
  replace P6 := Lib.hid (P6.out.ext h)
  replace P7 := Lib.hid (P7.out.ext h)
  replace BX := Lib.hid (BX.out.ext h)
  replace BT := Lib.hid (BT.out.ext h)
  replace P8 := Lib.hid (P8.out.ext h)
  replace BU := Lib.hid (BU.out.ext h)
  replace EX := Lib.hid (EX.out.trans h)
  clear h
  have d1 : ∀ w', Ext w13 w' → w'.cell? ⟨w.heap.size + 1 + 1 + 1, 0, none⟩ = some (.slice a3 gs.length cb) := fun w' h => h.cellOf ((X5.out.trans EX.out).cellOf CU.out)
  have d2 : ∀ w', Ext w13 w' → w'.cell? ⟨bu, 0, none⟩ = some (.slice (some ⟨B8, 0, none⟩) gs.length gs.length) := fun w' h => h.cellOf (BU.out 0 _ rfl).1
  have hr9 := Ext.refl w13
  go_upto_region 22 with fail
  refine wp_region_held_drew (S := (fun w' => Ext w13 w')) (by kernel_rfl) (by (try dsimp only); first | go_keep | exact (Ext.refl _).drew | exact Res.new2.drew | exact Res.new4.drew | exact ResB.drew (by assumption) | exact ResC.drew (by assumption) | assumption | exact Ext.drew (by assumption) | exact Res.drew (by assumption)) (fun hHeld => ?_)
  refine Ord.K 0 86 ?_
  refine Ord.K 1 87 ?_
  (refine wpAnyH_ready (rs := [2]) (by kernel_rfl) (by simp) ?_; refine AllReadyH.cons rfl (fun K hK => ?_) AllReadyH.nil; go_simp; (first | (go_at_call 51; refine (toTrack_any _ _ _ _ (HU.out.ext (X5.out.trans (EX.out.trans (by first | assumption | exact (Ext.refl _).drew)))) HL3.out).mono ?_; rintro e w14 ⟨B12, rfl, -, O12, hy⟩) | (go_at_call 53; refine (eqTrack_same _ _ _ _ _ _ ((P8.out.ext (by assumption)).fxs HM3.out) (O12.fxs HM3.out)).mono ?_; rintro e w15 ⟨rfl, hy⟩)); go_wp2_with fail; (refine hK.out _ _ (by first | assumption | exact Ext.trans (by assumption) hy | exact Res.ext (by assumption) hy | exact ResB.ext (by assumption) hy | exact ResC.ext (by assumption) hy | (go_split_ands; (repeat' apply And.intro) <;> exact Ext.cellOf hy (by assumption))) (fun hHeld => ?_)); clear hK K; (try simp only [Act.put, Ord.a, Ord.b, Ord.c]))
  (refine wpAnyH_ready (rs := [3]) (by kernel_rfl) (by simp) ?_; refine AllReadyH.cons rfl (fun K hK => ?_) AllReadyH.nil; go_simp; (first | (go_at_call 51; refine (toTrack_any _ _ _ _ (HU.out.ext (X5.out.trans (EX.out.trans (by first | assumption | exact (Ext.refl _).drew)))) HL3.out).mono ?_; rintro e w14 ⟨B12, rfl, -, O12, hy⟩) | (go_at_call 53; refine (eqTrack_same _ _ _ _ _ _ ((P8.out.ext (by assumption)).fxs HM3.out) (O12.fxs HM3.out)).mono ?_; rintro e w15 ⟨rfl, hy⟩)); go_wp2_with fail; (refine hK.out _ _ (by first | assumption | exact Ext.trans (by assumption) hy | exact Res.ext (by assumption) hy | exact ResB.ext (by assumption) hy | exact ResC.ext (by assumption) hy | (go_split_ands; (repeat' apply And.intro) <;> exact Ext.cellOf hy (by assumption))) (fun hHeld => ?_)); clear hK K; (try simp only [Act.put, Ord.a, Ord.b, Ord.c]))
  refine Ord.K 4 90 ?_
  refine wpAnyH_done (by kernel_rfl) ?_ _
  have h : Ext w13 w15 := hHeld
  clear hHeld hy hr9 O12 d1 d2
  replace P6 := Lib.hid (P6.out.ext h)
  replace P7 := Lib.hid (P7.out.ext h)
  replace BX := Lib.hid (BX.out.ext h)
  replace BT := Lib.hid (BT.out.ext h)
  replace P8 := Lib.hid (P8.out.ext h)
  replace BU := Lib.hid (BU.out.ext h)
  replace EX := Lib.hid (EX.out.trans h)
  clear h
  go_wp2
  go_ret
  exact ⟨rfl, HW.out.trans (X5.out.trans EX.out)⟩
theorem own : ownKnob Tryz.prog.godebug = none := by kernel_rfl
theorem laidOut : laidOutB Tryz.prog = true := Clo.laid
set_option maxRecDepth 100000 in
set_option maxHeartbeats 1000000 in
theorem lifted (os : Os) (started : os.Started) (H : Type) (enc : TypeId × Value → H) :
    ReturnsInHanded {} Tryz.checked os 10 .any (Rows.fnExactRoomAtSpec.pre6 enc Tryz.prog Tryz.f10 Rows.fnExactRoomAtRow.domain false) (Rows.fnExactRoomAtSpec.post enc Tryz.prog Tryz.f10 false true false false) := by
  refine returnsInHanded_of_change (C := Tryz.checked) own started (by kernel_rfl) Tryz.func10
    (ChangeSpec.witness6 (enc := enc) (C := Tryz.checked) false ⟨#[], #[.agg #[.int .i64 0, .int .i64 0], .agg #[.int .i64 0, .int .i64 0, .int .i64 0, .int .i64 0, .int .i64 0, .int .i64 0, .int .i64 0, .int .i64 0, .slice none 0 0], .int .i64 0, .agg #[.slice none 0 0], .agg #[.slice none 0 0], .int .i64 0], []⟩ 8 (by kernel_rfl) (by kernel_rfl) (by kernel_rfl) (by kernel_rfl)) ?_
  intro W base args ds gs before hval0 hW hcnd _
  have hval : ∀ (j : Nat) t v, Tryz.f10.params[j]? = some t → args[j]? = some v → Value.okWide Tryz.prog W .any base t v := hval0
  have hW' := hW
  obtain ⟨p, q, hA0, hV, rfl, hfz, hnd⟩ := hW
  have hA : DataW.TrodAll enc Tryz.prog W 0 (fun _ => true) true Tryz.f10.params.toList args.toList ds p := hA0
  rw [Tryz.params10] at hA hval
  obtain ⟨v0, vs0, d0, ds0, p0, q0, hargs, rfl, rfl, h0, r0⟩ := trodAll_cons hA
  obtain ⟨v1, vs1, d1, ds1, p1, q1, rfl, rfl, rfl, h1, r1⟩ := trodAll_cons r0
  obtain ⟨v2, vs2, d2, ds2, p2, q2, rfl, rfl, rfl, h2, r2⟩ := trodAll_cons r1
  obtain ⟨v3, vs3, d3, ds3, p3, q3, rfl, rfl, rfl, h3, r3⟩ := trodAll_cons r2
  obtain ⟨v4, vs4, d4, ds4, p4, q4, rfl, rfl, rfl, h4, r4⟩ := trodAll_cons r3
  obtain ⟨v5, vs5, d5, ds5, p5, q5, rfl, rfl, rfl, h5, r5⟩ := trodAll_cons r4
  obtain ⟨rfl, rfl, rfl⟩ := trodAll_nil r5
  obtain rfl : args = #[v0, v1, v2, v3, v4, v5] := by cases args; simp_all
  obtain ⟨rfl, rfl⟩ := trodVars_none hV
  have k0 := h0
  have lt0 : ∀ x ∈ p0, x.block < W.heap.size := by obtain ⟨m, hm⟩ := k0; exact DataW.trod_lt m _ _ _ hm
  obtain ⟨cx0, cy0, yx0, yy0, m0, rfl, _, _, hyx0, hyy0⟩ := Joins.open_agg2 Tryz.underlying91 (by kernel_rfl) (by kernel_rfl) (hval 0 91 v0 rfl rfl) h0
  obtain ⟨x0, ex0, _, wx0⟩ := DataW.trod_int Tryz.underlying2 hyx0
  obtain ⟨y0, ey0, _, wy0⟩ := DataW.trod_int Tryz.underlying2 hyy0
  simp at ex0 ey0
  subst ex0 ey0
  have k1 := h1
  have lt1 : ∀ x ∈ p1, x.block < W.heap.size := by obtain ⟨m, hm⟩ := k1; exact DataW.trod_lt m _ _ _ hm
  obtain ⟨l1, k1', a1, cap1, ms1, rfl, w1⟩ := Crs.open_course Tryz.underlying79 (by kernel_rfl) ⟨rfl, by kernel_rfl⟩ ⟨rfl, by kernel_rfl⟩ ⟨rfl, by kernel_rfl⟩ Tryz.underlying76 Tryz.underlying76 Tryz.underlying77 ⟨rfl, by kernel_rfl⟩ ⟨rfl, by kernel_rfl⟩ Tryz.underlying74 Tryz.underlying74 Tryz.underlying249 (by kernel_rfl) ⟨rfl, by kernel_rfl⟩ ⟨rfl, by kernel_rfl⟩ ⟨rfl, by kernel_rfl⟩ ⟨rfl, by kernel_rfl⟩ Tryz.underlying9 Tryz.underlying74 ⟨rfl, by kernel_rfl⟩ ⟨rfl, by kernel_rfl⟩ Tryz.underlying2 Tryz.underlying2 Tryz.underlying2 Tryz.underlying2 (hval 1 79 v1 rfl rfl) h1
  have k2 := h2
  have lt2 : ∀ x ∈ p2, x.block < W.heap.size := by obtain ⟨m, hm⟩ := k2; exact DataW.trod_lt m _ _ _ hm
  obtain ⟨a2, rfl, _, _, w2⟩ := open_int Tryz.underlying2 (hval 2 2 v2 rfl rfl) h2
  have k3 := h3
  have lt3 : ∀ x ∈ p3, x.block < W.heap.size := by obtain ⟨m, hm⟩ := k3; exact DataW.trod_lt m _ _ _ hm
  obtain ⟨a3, cap3, fs3, rfl, w3⟩ := Trk.open_track Tryz.underlying94 (by kernel_rfl) (by kernel_rfl) Tryz.underlying92 Tryz.underlying256 (by kernel_rfl) (by kernel_rfl) Tryz.underlying2 Tryz.underlying2 Tryz.underlying2 (hval 3 94 v3 rfl rfl) h3
  have k4 := h4
  have lt4 : ∀ x ∈ p4, x.block < W.heap.size := by obtain ⟨m, hm⟩ := k4; exact DataW.trod_lt m _ _ _ hm
  obtain ⟨a4, cap4, fs4, rfl, w4⟩ := Trk.open_track Tryz.underlying94 (by kernel_rfl) (by kernel_rfl) Tryz.underlying92 Tryz.underlying256 (by kernel_rfl) (by kernel_rfl) Tryz.underlying2 Tryz.underlying2 Tryz.underlying2 (hval 4 94 v4 rfl rfl) h4
  have k5 := h5
  have lt5 : ∀ x ∈ p5, x.block < W.heap.size := by obtain ⟨m, hm⟩ := k5; exact DataW.trod_lt m _ _ _ hm
  obtain ⟨a5, rfl, _, _, w5⟩ := open_int Tryz.underlying2 (hval 5 2 v5 rfl rfl) h5
  clear hA0 hval0
  refine (walk x0 y0 l1 k1' a1 cap1 ms1 a2 a3 cap3 fs3 a4 cap4 fs4 a5 W w1 w3 w4).mono fun e W' ⟨he, hx⟩ => ?_
  have bel := hx.below
  subst he
  exact ⟨_, rfl, _, _, _, [], _, [], hW', trodAll_mk1 (shut_bool Tryz.underlying4 _), (trodAll_cons_mk (Below.trod laidOut (by kernel_rfl) (of_decide_eq_true (by kernel_rfl)) k0 bel lt0) (trodAll_cons_mk (Below.trod laidOut (by kernel_rfl) (of_decide_eq_true (by kernel_rfl)) k1 bel lt1) (trodAll_cons_mk (Below.trod laidOut (by kernel_rfl) (of_decide_eq_true (by kernel_rfl)) k2 bel lt2) (trodAll_cons_mk (Below.trod laidOut (by kernel_rfl) (of_decide_eq_true (by kernel_rfl)) k3 bel lt3) (trodAll_cons_mk (Below.trod laidOut (by kernel_rfl) (of_decide_eq_true (by kernel_rfl)) k4 bel lt4) (trodAll_cons_mk (Below.trod laidOut (by kernel_rfl) (of_decide_eq_true (by kernel_rfl)) k5 bel lt5) trodAll_mk0)))))), rfl, bel.frame _, fun h => by cases h⟩
set_option maxRecDepth 100000 in
set_option maxHeartbeats 400000000 in
theorem closed : joinedFacts Tryz.pinned.checked.prog 10 Tryz.f10 Rows.fnExactRoomAtSpec Rows.fnExactRoomAtRow = true := by
  unfold joinedFacts
  simp only [Bool.and_eq_true]
  repeat' (with_reducible refine And.intro ?_ ?_)
  all_goals (first | (with_reducible exact Clo.laid) | (with_reducible exact Clo.rowed) | (with_reducible exact Clo.heard) | (with_reducible exact Clo.enter) | (rw [Clo.lifts]; rfl) | (rw [Clo.made]; rfl) | (as_aux_lemma => kernel_rfl))
theorem proved : Rows.FnExactRoomAtSaid :=
  OpenClaim.holds_of_wide 10 Tryz.f10 rfl rfl rfl rfl rfl rfl rfl ⟨rfl, rfl, rfl, rfl, rfl⟩ rfl rfl rfl rfl rfl (by as_aux_lemma => kernel_rfl) Tryz.func10 closed
    (of_decide_eq_true (by as_aux_lemma => kernel_rfl)) (by unfold Func.isWrapper; first | (rw [if_pos (by decide +kernel)]; kernel_rfl) | (rw [if_neg (by decide +kernel)]; exact ⟨rfl, rfl⟩))
    (fun os started H enc _ => lifted os started H enc)
end Go.Proofs.YtmlojndkpnhalaaGreat.fnExactRoomAt
