import Derived.Test.YtcangdcakgcpaaaGreatZon8
import Derived.Test.YtcangdcakgcpaaaGreatTkl
import Derived.Test.YtcangdcakgcpaaaGreatMtx
import Derived.Test.YtcangdcakgcpaaaGreatOpnC
import Derived.ChangeOld
import Derived.Below
import Derived.Lib.SmallJoins
namespace Go.Proofs.YtcangdcakgcpaaaGreat.fnExactFirstToZone
open Go.ChangeShapes Go.WideShapes Go.ChangeAt Go.RowKit
open Go.Proofs.YtcangdcakgcpaaaGreat.Kit Go.Proofs.YtcangdcakgcpaaaGreat.Pts Go.Proofs.YtcangdcakgcpaaaGreat.Seg Go.Proofs.YtcangdcakgcpaaaGreat.Crs
open Go.Proofs.YtcangdcakgcpaaaGreat.Trk (F3 Fxs Tr trB)
set_option linter.unusedVariables false
set_option linter.unusedSimpArgs false
theorem szR_le {m : Int} {ms : List M5} (hm : 0 ≤ m) : szR m ms ≤ m := by
  unfold szR
  split
  · omega
  · have := szT_le (m - ms.length) ms ms.length; omega
theorem fzS_same {m : M5} {ts us : List T1} (h : SameT ts us) : ∀ j, j ≤ ts.length → fzS m us j = fzS m ts j
  | 0, _ => rfl
  | j + 1, hj => by
    have ih := fzS_same (m := m) h j (by omega)
    have e := h.2 j (by omega)
    show (match tzL m (tk us j).fs with | [] => fzS m us j | x :: _ => if (fzS m us j).1 < 0 ∨ beT (tk us j).fs x < (fzS m us j).2 then ((j : Int), beT (tk us j).fs x) else fzS m us j) = _
    rw [e, ih]; rfl
theorem tsB_same {ts us : List T1} (h : SameT ts us) : tsB us = tsB ts := by
  apply Bool.eq_iff_iff.2
  unfold tsB
  rw [h.1]
  simp only [List.all_eq_true, List.mem_range]
  constructor
  · intro q i hi
    have := q i hi
    unfold tkB at this ⊢
    rwa [h.2 i hi] at this
  · intro q i hi
    have := q i hi
    unfold tkB at this ⊢
    rwa [h.2 i hi]
theorem fz_same {l k : L4} {ms : List M5} {ts us : List T1} {n : Int} (h : SameT ts us) : fzC l k ms us n = fzC l k ms ts n ∧ fzV l k ms us n = fzV l k ms ts n := by
  have e : fzC l k ms us n = fzC l k ms ts n := by
    unfold fzC
    rw [h.1, tsB_same h, fzS_same h ts.length (Nat.le_refl _)]
  refine ⟨e, ?_⟩
  unfold fzV
  rw [e, h.1, fzS_same h ts.length (Nat.le_refl _)]
set_option maxRecDepth 100000 in
set_option maxHeartbeats 8000000 in
theorem walk (l k : L4) (a : Option Addr) (cap : Nat) (ms : List M5) (n : Int) (a2 : Option Addr) (cap2 : Nat) (ts : List T1) (w : World) (hf : Mks w a ms) (ht : Tks w a2 ts) :
    Calls Tryz.prog 5 #[CV l k (.slice a ms.length cap), .int .i64 n, .slice a2 ts.length cap2] w fun e w' => e = .returned (.bool true) ∧ Ext w w' := by
  have HM := Lib.hid hf.1
  obtain ⟨W0, hW0⟩ : ∃ W0, W0 = w.alloc (.cells (cellsC l k (.slice a ms.length cap)).toArray 54) := ⟨_, rfl⟩
  have HW := Lib.hid (show Ext w W0 from hW0 ▸ (Ext.refl w).alloc _)
  have BB := Lib.hid (show Box W0 w.heap.size (cellsC l k (.slice a ms.length cap)) from hW0 ▸ Box.new rfl)
  have HF := Lib.hid (hf.ext HW.out)
  have HT := Lib.hid (ht.ext HW.out)
  clear hf ht
  have PS := Lib.hid (fun w (h : Mks w a ms) => szCourse_any l k a cap ms 1048576 w h (by decide) (by decide))
  by_cases hl : szR 1048576 ms < 0
  · rw [if_pos hl] at PS
    go_enter Tryz.func5, Tryz.ntmps5
    go_wp2_with fail
    rw [← hW0]
    clear hW0
    refine (PS.out _ HF.out).mono ?_
    rintro e w1 ⟨rfl, h1⟩
    go_wp2
    go_ret
    exact ⟨rfl, HW.out.trans h1⟩
  rw [if_neg hl] at PS
  have HL := Lib.hid (szR_yes hl (by decide) (by decide)).1
  have S1 := szR_le (m := 1048576) (ms := ms) (by decide)
  obtain ⟨S, hS⟩ : ∃ S, S = szR 1048576 ms := ⟨_, rfl⟩
  rw [← hS] at PS hl S1
  clear hS
  have hl2 : decide (S < 0) = false := decide_eq_false hl
  have KS := Lib.hid (fun (a : Option Addr) (cap : Nat) (a2 : Option Addr) (cap2 : Nat) (us : List T1) (hs : SameT ts us) (w : World) (hf : Mks w a ms) (ht : Tks w a2 us) => show Calls Tryz.prog 13 #[CV l k (.slice a ms.length cap), .int .i64 n, .slice a2 ts.length cap2] w (fun e w' => e = .returned (.tuple #[.int .i64 (fzV l k ms ts n), .int .i64 (fzC l k ms ts n)]) ∧ Ext w w') from by
    rw [← (fz_same hs).1, ← (fz_same hs).2, ← hs.1]; exact firstToZone_spec l k a cap ms n a2 cap2 us w hf ht)
  have KI := Lib.hid (fun (a : Option Addr) (cap : Nat) (a2 : Option Addr) (cap2 : Nat) (us : List T1) (hs : SameT ts us) (w : World) (hf : Mks w a ms) (ht : Tks w a2 us) => show Calls Tryz.prog 12 #[CV l k (.slice a ms.length cap), .int .i64 n, .slice a2 ts.length cap2] w (fun e w' => e = .returned (.tuple #[.int .i64 (fzV l k ms ts n), .int .i64 (fzC l k ms ts n)]) ∧ Ext w w') from by
    rw [← (fz_same hs).1, ← (fz_same hs).2, ← hs.1]; exact firstToZone_impl l k a cap ms n a2 cap2 us w hf ht)
  generalize fzC l k ms ts n = ck at *
  generalize fzV l k ms ts n = x0 at *
  go_enter Tryz.func5, Tryz.ntmps5
  go_wp2_with fail
  rw [← hW0]
  clear hW0
  refine (PS.out _ HF.out).mono ?_
  rintro e w1 ⟨rfl, h1⟩
  go_wp2_with fail
  refine (szTrackS_any a2 cap2 ts S _ (HT.out.ext h1) (by omega) S1).mono ?_
  rintro e w2 ⟨z, rfl, z1, hz, h2⟩
  have X2 := Lib.hid (h1.trans h2)
  clear h1 h2
  by_cases hz0 : z < 0
  · have hz2 : decide (z < 0) = true := decide_eq_true hz0
    go_wp2
    go_ret
    exact ⟨rfl, HW.out.trans X2.out⟩
  have hz2 : decide (z < 0) = false := decide_eq_false hz0
  have HL2 := Lib.hid (hz (by omega))
  have B2 := Lib.hid (BB.out.ext X2.out)
  obtain ⟨⟨p0, p1, p2, p3, p4, p5, p6, p7, p8⟩, _⟩ := Box.nine B2.out
  clear hz B2
  go_wp2_with fail
  refine (toCourse_any _ _ _ _ _ _ (HF.out.ext X2.out) HL.out).mono ?_
  rintro e w3 ⟨B3, rfl, -, O3, hy⟩
  have X3 := Lib.hid (X2.out.trans hy)
  clear hy p0 p1 p2 p3 p4 p5 p6 p7 p8
  go_wp2_with fail
  refine (toTrackS_any _ _ _ _ (HT.out.ext X3.out) HL2.out.1 HL2.out.2).mono ?_
  rintro e w4 ⟨B4, us, rfl, -, hs, T4, hy⟩
  have X4 := Lib.hid (X3.out.trans hy)
  replace O3 := O3.ext hy
  clear hy
  go_wp2_with fail
  refine (KS.out _ _ _ _ us hs _ (O3.mks HM.out) T4).mono ?_
  rintro e w5 ⟨rfl, hy⟩
  have X5 := Lib.hid (X4.out.trans hy)
  clear hy O3 T4 hs
  obtain ⟨⟨p0, p1, p2, p3, p4, p5, p6, p7, p8⟩, _⟩ := Box.nine (BB.out.ext X5.out)
  go_wp2_with fail
  refine (toCourse_any _ _ _ _ _ _ (HF.out.ext X5.out) HL.out).mono ?_
  rintro e w6 ⟨B6, rfl, l6, O6, h⟩
  obtain ⟨W6, hW6⟩ : ∃ W6, W6 = w6.alloc (.cells (cellsC l k (.slice (some ⟨B6, 0, none⟩) ms.length ms.length)).toArray 30) := ⟨_, rfl⟩
  have h6 : Ext w6 W6 := hW6 ▸ (Ext.refl w6).alloc _
  have BX := Lib.hid (show Box W6 w6.heap.size (cellsC l k (.slice (some ⟨B6, 0, none⟩) ms.length ms.length)) from hW6 ▸ Box.new rfl)
  have P6 := Lib.hid (O6.ext h6)
  have EX := Lib.hid (X5.out.trans (h.trans h6))
  clear h h6 O6 p0 p1 p2 p3 p4 p5 p6 p7 p8 l6
  go_upto_region 10 with fail
  have eA : w6.alloc (.cells (cellsC l k (.slice (some ⟨B6, 0, none⟩) ms.length ms.length)).toArray 30) = W6 := hW6.symm
  simp only [cellsC] at eA
  first | rw [← hW6] | rw [eA] | simp only [eA]
  clear hW6 eA
  go_wp2_with fail
  refine (toTrackS_any _ _ _ _ (HT.out.ext EX.out) HL2.out.1 HL2.out.2).mono ?_
  rintro e w7 ⟨B7, us7, rfl, -, hs7, T7, hy⟩
  replace P6 := Lib.hid (P6.out.ext hy)
  replace BX := Lib.hid (BX.out.ext hy)
  replace EX := Lib.hid (EX.out.trans hy)
  have HT7 := Lib.hid T7
  have HS7 := Lib.hid hs7
  clear hy T7 hs7
  obtain ⟨⟨p0, p1, p2, p3, p4, p5, p6, p7, p8⟩, _⟩ := Box.nine BX.out
  go_wp2_with fail
  refine (KI.out _ _ _ _ us7 HS7.out _ (P6.out.mks HM.out) HT7.out).mono ?_
  rintro e w8 ⟨rfl, hy⟩
  replace P6 := Lib.hid (P6.out.ext hy)
  replace BX := Lib.hid (BX.out.ext hy)
  replace EX := Lib.hid (EX.out.trans hy)
  replace HT7 := Lib.hid (HT7.out.ext hy)
  clear hy p0 p1 p2 p3 p4 p5 p6 p7 p8
  have B8 := Lib.hid (BB.out.ext EX.out)
  have e0 : ∀ w', Ext w8 w' → w'.cell? ⟨w.heap.size, 0, none⟩ = some (.int .i64 l.a) := fun w' h => h.cellOf (B8.out 0 _ rfl).1
  have e1 : ∀ w', Ext w8 w' → w'.cell? ⟨w.heap.size, 1, none⟩ = some (.int .i64 l.b) := fun w' h => h.cellOf (B8.out 1 _ rfl).1
  have e2 : ∀ w', Ext w8 w' → w'.cell? ⟨w.heap.size, 2, none⟩ = some (.int .i64 l.c) := fun w' h => h.cellOf (B8.out 2 _ rfl).1
  have e3 : ∀ w', Ext w8 w' → w'.cell? ⟨w.heap.size, 3, none⟩ = some (.int .i64 l.d) := fun w' h => h.cellOf (B8.out 3 _ rfl).1
  have e4 : ∀ w', Ext w8 w' → w'.cell? ⟨w.heap.size, 4, none⟩ = some (.int .i64 k.a) := fun w' h => h.cellOf (B8.out 4 _ rfl).1
  have e5 : ∀ w', Ext w8 w' → w'.cell? ⟨w.heap.size, 5, none⟩ = some (.int .i64 k.b) := fun w' h => h.cellOf (B8.out 5 _ rfl).1
  have e6 : ∀ w', Ext w8 w' → w'.cell? ⟨w.heap.size, 6, none⟩ = some (.int .i64 k.c) := fun w' h => h.cellOf (B8.out 6 _ rfl).1
  have e7 : ∀ w', Ext w8 w' → w'.cell? ⟨w.heap.size, 7, none⟩ = some (.int .i64 k.d) := fun w' h => h.cellOf (B8.out 7 _ rfl).1
  have e8 : ∀ w', Ext w8 w' → w'.cell? ⟨w.heap.size, 8, none⟩ = some (.slice a ms.length cap) := fun w' h => h.cellOf (B8.out 8 _ rfl).1
  have f0 : ∀ w', Ext w8 w' → w'.cell? ⟨w6.heap.size, 0, none⟩ = some (.int .i64 l.a) := fun w' h => h.cellOf (BX.out 0 _ rfl).1
  have f1 : ∀ w', Ext w8 w' → w'.cell? ⟨w6.heap.size, 1, none⟩ = some (.int .i64 l.b) := fun w' h => h.cellOf (BX.out 1 _ rfl).1
  have f2 : ∀ w', Ext w8 w' → w'.cell? ⟨w6.heap.size, 2, none⟩ = some (.int .i64 l.c) := fun w' h => h.cellOf (BX.out 2 _ rfl).1
  have f3 : ∀ w', Ext w8 w' → w'.cell? ⟨w6.heap.size, 3, none⟩ = some (.int .i64 l.d) := fun w' h => h.cellOf (BX.out 3 _ rfl).1
  have f4 : ∀ w', Ext w8 w' → w'.cell? ⟨w6.heap.size, 4, none⟩ = some (.int .i64 k.a) := fun w' h => h.cellOf (BX.out 4 _ rfl).1
  have f5 : ∀ w', Ext w8 w' → w'.cell? ⟨w6.heap.size, 5, none⟩ = some (.int .i64 k.b) := fun w' h => h.cellOf (BX.out 5 _ rfl).1
  have f6 : ∀ w', Ext w8 w' → w'.cell? ⟨w6.heap.size, 6, none⟩ = some (.int .i64 k.c) := fun w' h => h.cellOf (BX.out 6 _ rfl).1
  have f7 : ∀ w', Ext w8 w' → w'.cell? ⟨w6.heap.size, 7, none⟩ = some (.int .i64 k.d) := fun w' h => h.cellOf (BX.out 7 _ rfl).1
  have f8 : ∀ w', Ext w8 w' → w'.cell? ⟨w6.heap.size, 8, none⟩ = some (.slice (some ⟨B6, 0, none⟩) ms.length ms.length) := fun w' h => h.cellOf (BX.out 8 _ rfl).1
  go_upto_region 14 with fail
  refine wp_region_held_drew (S := (fun w' => Ext w8 w')) (by kernel_rfl) (by (try dsimp only); first | go_keep | exact (Ext.refl _).drew | exact Res.new2.drew | exact Res.new4.drew | exact ResB.drew (by assumption) | exact ResC.drew (by assumption) | assumption | exact Ext.drew (by assumption) | exact Res.drew (by assumption)) (fun hHeld => ?_)
  refine Ord.K 0 52 ?_
  refine Ord.K 1 53 ?_
  (refine wpAnyH_ready (rs := [2]) (by kernel_rfl) (by simp) ?_; refine AllReadyH.cons rfl (fun K hK => ?_) AllReadyH.nil; go_simp; (first | (go_at_call 23; refine (toCourse_any _ _ _ _ _ _ (HF.out.ext (EX.out.trans (by first | assumption | exact (Ext.refl _).drew))) HL.out).mono ?_; rintro e w10 ⟨B10, rfl, -, O10, hy⟩) | (go_at_call 25; refine (eqCourse_same _ _ _ _ _ _ _ _ ((P6.out.ext (by assumption)).mks HM.out) (O10.mks HM.out)).mono ?_; rintro e w11 ⟨rfl, hy⟩)); go_wp2_with fail; (refine hK.out _ _ (by first | assumption | exact Ext.trans (by assumption) hy | exact Res.ext (by assumption) hy | exact ResB.ext (by assumption) hy | exact ResC.ext (by assumption) hy | (go_split_ands; (repeat' apply And.intro) <;> exact Ext.cellOf hy (by assumption))) (fun hHeld => ?_)); clear hK K; (try simp only [Act.put, Ord.a, Ord.b, Ord.c]))
  (refine wpAnyH_ready (rs := [3]) (by kernel_rfl) (by simp) ?_; refine AllReadyH.cons rfl (fun K hK => ?_) AllReadyH.nil; go_simp; (first | (go_at_call 23; refine (toCourse_any _ _ _ _ _ _ (HF.out.ext (EX.out.trans (by first | assumption | exact (Ext.refl _).drew))) HL.out).mono ?_; rintro e w10 ⟨B10, rfl, -, O10, hy⟩) | (go_at_call 25; refine (eqCourse_same _ _ _ _ _ _ _ _ ((P6.out.ext (by assumption)).mks HM.out) (O10.mks HM.out)).mono ?_; rintro e w11 ⟨rfl, hy⟩)); go_wp2_with fail; (refine hK.out _ _ (by first | assumption | exact Ext.trans (by assumption) hy | exact Res.ext (by assumption) hy | exact ResB.ext (by assumption) hy | exact ResC.ext (by assumption) hy | (go_split_ands; (repeat' apply And.intro) <;> exact Ext.cellOf hy (by assumption))) (fun hHeld => ?_)); clear hK K; (try simp only [Act.put, Ord.a, Ord.b, Ord.c]))
  refine Ord.K 4 56 ?_
  refine wpAnyH_done (by kernel_rfl) ?_ _
  have h : Ext w8 w11 := hHeld
  replace EX := Lib.hid (EX.out.trans h)
  replace HT7 := Lib.hid (HT7.out.ext h)
  clear h hHeld hy O10 B8 BX P6 e0 e1 e2 e3 e4 e5 e6 e7 e8 f0 f1 f2 f3 f4 f5 f6 f7 f8
  go_wp2_with fail
  refine (toTrackS_any _ _ _ _ (HT.out.ext EX.out) HL2.out.1 HL2.out.2).mono ?_
  rintro e w12 ⟨B12, us12, rfl, -, hs12, T12, hy⟩
  replace EX := Lib.hid (EX.out.trans hy)
  replace HT7 := Lib.hid (HT7.out.ext hy)
  clear hy
  go_wp2_with fail
  have hsame : SameT us7 us12 := ⟨hs12.1.trans HS7.out.1.symm, fun i hi => (hs12.2 i (by have := HS7.out.1; omega)).trans (HS7.out.2 i (by have := HS7.out.1; omega)).symm⟩
  have KE := eqTrackS_same (some ⟨B7, 0, none⟩) (some ⟨B12, 0, none⟩) ts.length ts.length us7 us12 _ HT7.out T12 hsame
  rw [HS7.out.1] at KE
  refine KE.mono ?_
  rintro e w13 ⟨rfl, hy⟩
  go_wp2
  go_ret
  exact ⟨rfl, HW.out.trans (EX.out.trans hy)⟩
end Go.Proofs.YtcangdcakgcpaaaGreat.fnExactFirstToZone
