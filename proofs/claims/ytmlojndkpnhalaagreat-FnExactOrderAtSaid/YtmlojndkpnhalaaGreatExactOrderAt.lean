import Derived.Test.YtmlojndkpnhalaaGreatMOrdi
import Derived.Test.YtmlojndkpnhalaaGreatMtk
import Derived.Test.YtmlojndkpnhalaaGreatMtx
import Derived.Test.YtmlojndkpnhalaaGreatOpnC
import Derived.ChangeOld
import Derived.Below
import Derived.Lib.SmallJoins
namespace Go.Proofs.YtmlojndkpnhalaaGreat.fnExactOrderAt
open Go.ChangeShapes Go.WideShapes Go.ChangeAt Go.RowKit
open Go.Proofs.YtmlojndkpnhalaaGreat.Kit Go.Proofs.YtmlojndkpnhalaaGreat.Pts Go.Proofs.YtmlojndkpnhalaaGreat.Seg Go.Proofs.YtmlojndkpnhalaaGreat.Crs
open Go.Proofs.YtmlojndkpnhalaaGreat.Trk (F3 Fxs Tr trB)
set_option linter.unusedVariables false
set_option linter.unusedSimpArgs false
theorem szR_le {m : Int} {ms : List M5} (hm : 0 ≤ m) : szR m ms ≤ m := by
  unfold szR
  split
  · omega
  · have := szT_le (m - ms.length) ms ms.length; omega
theorem tsB_same {ts us : List T1} (h : SameT ts us) : tsB us = tsB ts := by
  apply Bool.eq_iff_iff.2
  unfold tsB
  rw [h.1]
  simp only [List.all_eq_true, List.mem_range]
  constructor
  · intro q i hi
    have := q i hi
    unfold tkB at this ⊢
    rwa [h.2 i hi] at this
  · intro q i hi
    have := q i hi
    unfold tkB at this ⊢
    rwa [h.2 i hi]
theorem tk_none {ts : List T1} {i : Nat} (h : ¬ i < ts.length) : (tk ts i).fs = [] := by
  unfold tk
  rw [List.getD_eq_getElem?_getD, List.getElem?_eq_none (by omega)]; rfl
theorem pg_same {ls : List L4} {ts us : List T1} {t : Int} (h : SameT ts us) : pgO ls us t = pgO ls ts t := by
  funext i
  unfold pgO
  by_cases g : i < ts.length
  · rw [h.2 i g]
  · rw [tk_none g, tk_none (by rw [h.1]; exact g)]
theorem oa_same {l k : L4} {ms : List M5} {ts us : List T1} {t : Int} (h : SameT ts us) : oaC l k ms us = oaC l k ms ts ∧ oaZ l k ms us t = oaZ l k ms ts t := by
  have e : oaC l k ms us = oaC l k ms ts := by unfold oaC; rw [h.1, tsB_same h]
  refine ⟨e, ?_⟩
  unfold oaZ
  rw [e, h.1, pg_same h]
theorem oa_len (l k : L4) (ms : List M5) (ts : List T1) (t : Int) : (oaZ l k ms ts t).length ≤ 16 := by
  unfold oaZ
  split
  · rename_i g
    rw [zO_len, ord_len]
    unfold oaC at g
    split at g
    · cases g
    · omega
  · simp
set_option maxRecDepth 100000 in
set_option maxHeartbeats 16000000 in
theorem walk (l k : L4) (a : Option Addr) (cap : Nat) (ms : List M5) (a2 : Option Addr) (cap2 : Nat) (ts : List T1) (t : Int) (w : World) (hf : Mks w a ms) (ht : Tks w a2 ts) :
    Calls Tryz.prog 8 #[CV l k (.slice a ms.length cap), .slice a2 ts.length cap2, .int .i64 t] w fun e w' => e = .returned (.bool true) ∧ Ext w w' := by
  have HM := Lib.hid hf.1
  obtain ⟨W0, hW0⟩ : ∃ W0, W0 = w.alloc (.cells (cellsC l k (.slice a ms.length cap)).toArray 79) := ⟨_, rfl⟩
  have HW := Lib.hid (show Ext w W0 from hW0 ▸ (Ext.refl w).alloc _)
  have BB := Lib.hid (show Box W0 w.heap.size (cellsC l k (.slice a ms.length cap)) from hW0 ▸ Box.new rfl)
  have HF := Lib.hid (hf.ext HW.out)
  have HT := Lib.hid (ht.ext HW.out)
  clear hf ht
  have PS := Lib.hid (fun w (h : Mks w a ms) => szCourse_any l k a cap ms 1048576 w h (by decide) (by decide))
  by_cases hl : szR 1048576 ms < 0
  · rw [if_pos hl] at PS
    go_enter Tryz.func8, Tryz.ntmps8
    go_wp2_with fail
    rw [← hW0]
    clear hW0
    refine (PS.out _ HF.out).mono ?_
    rintro e w1 ⟨rfl, h1⟩
    go_wp2
    go_ret
    exact ⟨rfl, HW.out.trans h1⟩
  rw [if_neg hl] at PS
  have HL := Lib.hid (szR_yes hl (by decide) (by decide)).1
  have S1 := szR_le (m := 1048576) (ms := ms) (by decide)
  obtain ⟨S, hS⟩ : ∃ S, S = szR 1048576 ms := ⟨_, rfl⟩
  rw [← hS] at PS hl S1
  clear hS
  have hl2 : decide (S < 0) = false := decide_eq_false hl
  have KS := Lib.hid (fun (a : Option Addr) (cap : Nat) (a2 : Option Addr) (cap2 : Nat) (us : List T1) (hs : SameT ts us) (w : World) (hf : Mks w a ms) (ht : Tks w a2 us) => show Calls Tryz.prog 20 #[CV l k (.slice a ms.length cap), .slice a2 ts.length cap2, .int .i64 t] w (fun e w' => ∃ v, e = .returned (.tuple #[v, .int .i64 (oaC l k ms ts)]) ∧ OwnZ w' w.heap.size v (oaZ l k ms ts t) ∧ Ext w w') from by
    rw [← (oa_same (t := t) hs).1, ← (oa_same hs).2, ← hs.1]; exact orderAt_spec l k a cap ms a2 cap2 us t w hf ht)
  have KI := Lib.hid (fun (a : Option Addr) (cap : Nat) (a2 : Option Addr) (cap2 : Nat) (us : List T1) (hs : SameT ts us) (w : World) (hf : Mks w a ms) (ht : Tks w a2 us) => show Calls Tryz.prog 19 #[CV l k (.slice a ms.length cap), .slice a2 ts.length cap2, .int .i64 t] w (fun e w' => ∃ v, e = .returned (.tuple #[v, .int .i64 (oaC l k ms ts)]) ∧ OwnZ w' w.heap.size v (oaZ l k ms ts t) ∧ Ext w w') from by
    rw [← (oa_same (t := t) hs).1, ← (oa_same hs).2, ← hs.1]; exact orderAt_impl l k a cap ms a2 cap2 us t w hf ht)
  have HP := Lib.hid (show (oaZ l k ms ts t).length ≤ 1000 by have := oa_len l k ms ts t; omega)
  generalize oaC l k ms ts = ck at *
  generalize oaZ l k ms ts t = ps at *
  have HP2 := Lib.hid (show ps.length ≤ maxLen by unfold maxLen; have := HP.out; omega)
  go_enter Tryz.func8, Tryz.ntmps8
  go_wp2_with fail
  rw [← hW0]
  clear hW0
  refine (PS.out _ HF.out).mono ?_
  rintro e w1 ⟨rfl, h1⟩
  go_wp2_with fail
  refine (szTrackS_sum a2 cap2 ts S _ (HT.out.ext h1) (by omega) S1).mono ?_
  rintro e w2 ⟨z, rfl, z1, hz, h2⟩
  have X2 := Lib.hid (h1.trans h2)
  clear h1 h2
  by_cases hz0 : z < 0
  · have hz2 : decide (z < 0) = true := decide_eq_true hz0
    go_wp2
    go_ret
    exact ⟨rfl, HW.out.trans X2.out⟩
  have hz2 : decide (z < 0) = false := decide_eq_false hz0
  have HSM := Lib.hid (show (ts.length : Int) + smF ts ts.length ≤ 1048576 by have := hz (by omega); omega)
  have HL2 := Lib.hid (show ts.length ≤ 1048576 ∧ ∀ j, j < ts.length → (tk ts j).fs.length ≤ 1048576 from ⟨by have := HSM.out; omega, fun j hj => by have := HSM.out; have := smF_le ts ts.length j hj; omega⟩)
  have B2 := Lib.hid (BB.out.ext X2.out)
  obtain ⟨⟨p0, p1, p2, p3, p4, p5, p6, p7, p8⟩, _⟩ := Box.nine B2.out
  clear hz B2
  go_wp2_with fail
  refine (toCourse_any _ _ _ _ _ _ (HF.out.ext X2.out) HL.out).mono ?_
  rintro e w3 ⟨B3, rfl, -, O3, hy⟩
  have X3 := Lib.hid (X2.out.trans hy)
  clear hy p0 p1 p2 p3 p4 p5 p6 p7 p8
  go_wp2_with fail
  refine (toTrackS_any _ _ _ _ (HT.out.ext X3.out) HL2.out.1 HL2.out.2).mono ?_
  rintro e w4 ⟨B4, us, rfl, -, hs, T4, hy⟩
  have X4 := Lib.hid (X3.out.trans hy)
  replace O3 := O3.ext hy
  clear hy
  go_wp2_with fail
  refine (KS.out _ _ _ _ us hs _ (O3.mks HM.out) T4).mono ?_
  rintro e w5 ⟨v0, rfl, O0, hy⟩
  have X5 := Lib.hid (X4.out.trans hy)
  clear hy O3 T4 hs
  obtain ⟨a0, cap0, rfl, F0⟩ := O0.zxs HP2.out
  replace F0 := Lib.hid F0
  clear O0
  obtain ⟨⟨p0, p1, p2, p3, p4, p5, p6, p7, p8⟩, _⟩ := Box.nine (BB.out.ext X5.out)
  go_wp2_with fail
  refine (toCourse_any _ _ _ _ _ _ (HF.out.ext X5.out) HL.out).mono ?_
  rintro e w6 ⟨B6, rfl, l6, O6, h⟩
  have n6 : 0 < ms.length → B6 < w6.heap.size := fun h0 => World.block_lt_of_cell? w6 _ (O6 0 h0).1.1
  obtain ⟨W6, hW6⟩ : ∃ W6, W6 = w6.alloc (.cells (cellsC l k (.slice (some ⟨B6, 0, none⟩) ms.length ms.length)).toArray 30) := ⟨_, rfl⟩
  have h6 : Ext w6 W6 := hW6 ▸ (Ext.refl w6).alloc _
  have s6 := Lib.hid (show W6.heap.size = w6.heap.size + 1 by rw [hW6]; simp)
  have BX := Lib.hid (show Box W6 w6.heap.size (cellsC l k (.slice (some ⟨B6, 0, none⟩) ms.length ms.length)) from hW6 ▸ Box.new rfl)
  have P6 := Lib.hid (O6.ext h6)
  have z6 := Ext.size h
  have EX := Lib.hid (h.trans h6)
  clear h h6 O6 p0 p1 p2 p3 p4 p5 p6 p7 p8
  go_upto_region 10 with fail
  have eA : w6.alloc (.cells (cellsC l k (.slice (some ⟨B6, 0, none⟩) ms.length ms.length)).toArray 30) = W6 := hW6.symm
  simp only [cellsC] at eA
  first | rw [← hW6] | rw [eA] | simp only [eA]
  clear hW6 eA
  go_wp2_with fail
  refine (toTrackS_own _ _ _ _ (HT.out.ext (X5.out.trans EX.out)) HL2.out.1 HL2.out.2).mono ?_
  rintro e w7 ⟨us7, rfl, hs7, T7, hy⟩
  have z7 := Ext.size hy
  replace P6 := Lib.hid (P6.out.ext hy)
  replace BX := Lib.hid (BX.out.ext hy)
  replace EX := Lib.hid (EX.out.trans hy)
  have HT7 := Lib.hid T7
  have HS7 := Lib.hid hs7
  have HK7 := Lib.hid (fun w' (h : OwnTk w' W6.heap.size (W6.heap.size + 1) w7.heap.size us7) => h.tks (by have := HS7.out.1; have := HL2.out.1; unfold maxLen; omega) (fun i hi => by rw [HS7.out.2 i (by have := HS7.out.1; omega)]; have := HL2.out.2 i (by have := HS7.out.1; omega); unfold maxLen; omega))
  clear hy T7 hs7
  obtain ⟨⟨p0, p1, p2, p3, p4, p5, p6, p7, p8⟩, _⟩ := Box.nine BX.out
  go_wp2_with fail
  refine (KI.out _ _ _ _ us7 HS7.out _ (P6.out.mks HM.out) (HK7.out _ HT7.out)).mono ?_
  rintro e w8 ⟨v1, rfl, O1, hy⟩
  have z8 := Ext.size hy
  replace P6 := Lib.hid (P6.out.ext hy)
  replace BX := Lib.hid (BX.out.ext hy)
  replace EX := Lib.hid (EX.out.trans hy)
  replace HT7 := Lib.hid (HT7.out.ext hy)
  clear hy p0 p1 p2 p3 p4 p5 p6 p7 p8
  obtain ⟨a1, cap1, rfl, F1⟩ := O1.zxs HP2.out
  have P1 := Lib.hid O1
  go_wp2_with fail
  refine (eqInt64S_same _ _ _ _ _ _ F1 (F0.out.ext EX.out)).mono ?_
  rintro e w9 ⟨rfl, h⟩
  replace P6 := Lib.hid (P6.out.ext h)
  replace BX := Lib.hid (BX.out.ext h)
  replace HT7 := Lib.hid (HT7.out.ext h)
  replace P1 := Lib.hid (P1.out.ext h)
  replace EX := Lib.hid (EX.out.trans h)
  clear h O1 F1
  have B8 := Lib.hid (BB.out.ext (X5.out.trans EX.out))
  have e0 : ∀ w', Ext w9 w' → w'.cell? ⟨w.heap.size, 0, none⟩ = some (.int .i64 l.a) := fun w' h => h.cellOf (B8.out 0 _ rfl).1
  have e1 : ∀ w', Ext w9 w' → w'.cell? ⟨w.heap.size, 1, none⟩ = some (.int .i64 l.b) := fun w' h => h.cellOf (B8.out 1 _ rfl).1
  have e2 : ∀ w', Ext w9 w' → w'.cell? ⟨w.heap.size, 2, none⟩ = some (.int .i64 l.c) := fun w' h => h.cellOf (B8.out 2 _ rfl).1
  have e3 : ∀ w', Ext w9 w' → w'.cell? ⟨w.heap.size, 3, none⟩ = some (.int .i64 l.d) := fun w' h => h.cellOf (B8.out 3 _ rfl).1
  have e4 : ∀ w', Ext w9 w' → w'.cell? ⟨w.heap.size, 4, none⟩ = some (.int .i64 k.a) := fun w' h => h.cellOf (B8.out 4 _ rfl).1
  have e5 : ∀ w', Ext w9 w' → w'.cell? ⟨w.heap.size, 5, none⟩ = some (.int .i64 k.b) := fun w' h => h.cellOf (B8.out 5 _ rfl).1
  have e6 : ∀ w', Ext w9 w' → w'.cell? ⟨w.heap.size, 6, none⟩ = some (.int .i64 k.c) := fun w' h => h.cellOf (B8.out 6 _ rfl).1
  have e7 : ∀ w', Ext w9 w' → w'.cell? ⟨w.heap.size, 7, none⟩ = some (.int .i64 k.d) := fun w' h => h.cellOf (B8.out 7 _ rfl).1
  have e8 : ∀ w', Ext w9 w' → w'.cell? ⟨w.heap.size, 8, none⟩ = some (.slice a ms.length cap) := fun w' h => h.cellOf (B8.out 8 _ rfl).1
  have f0 : ∀ w', Ext w9 w' → w'.cell? ⟨w6.heap.size, 0, none⟩ = some (.int .i64 l.a) := fun w' h => h.cellOf (BX.out 0 _ rfl).1
  have f1 : ∀ w', Ext w9 w' → w'.cell? ⟨w6.heap.size, 1, none⟩ = some (.int .i64 l.b) := fun w' h => h.cellOf (BX.out 1 _ rfl).1
  have f2 : ∀ w', Ext w9 w' → w'.cell? ⟨w6.heap.size, 2, none⟩ = some (.int .i64 l.c) := fun w' h => h.cellOf (BX.out 2 _ rfl).1
  have f3 : ∀ w', Ext w9 w' → w'.cell? ⟨w6.heap.size, 3, none⟩ = some (.int .i64 l.d) := fun w' h => h.cellOf (BX.out 3 _ rfl).1
  have f4 : ∀ w', Ext w9 w' → w'.cell? ⟨w6.heap.size, 4, none⟩ = some (.int .i64 k.a) := fun w' h => h.cellOf (BX.out 4 _ rfl).1
  have f5 : ∀ w', Ext w9 w' → w'.cell? ⟨w6.heap.size, 5, none⟩ = some (.int .i64 k.b) := fun w' h => h.cellOf (BX.out 5 _ rfl).1
  have f6 : ∀ w', Ext w9 w' → w'.cell? ⟨w6.heap.size, 6, none⟩ = some (.int .i64 k.c) := fun w' h => h.cellOf (BX.out 6 _ rfl).1
  have f7 : ∀ w', Ext w9 w' → w'.cell? ⟨w6.heap.size, 7, none⟩ = some (.int .i64 k.d) := fun w' h => h.cellOf (BX.out 7 _ rfl).1
  have f8 : ∀ w', Ext w9 w' → w'.cell? ⟨w6.heap.size, 8, none⟩ = some (.slice (some ⟨B6, 0, none⟩) ms.length ms.length) := fun w' h => h.cellOf (BX.out 8 _ rfl).1
  go_upto_region 14 with fail
  refine wp_region_held_drew (S := (fun w' => Ext w9 w')) (by kernel_rfl) (by (try dsimp only); first | go_keep | exact (Ext.refl _).drew | exact Res.new2.drew | exact Res.new4.drew | exact ResB.drew (by assumption) | exact ResC.drew (by assumption) | assumption | exact Ext.drew (by assumption) | exact Res.drew (by assumption)) (fun hHeld => ?_)
  refine Ord.K 0 58 ?_
  refine Ord.K 1 59 ?_
  (refine wpAnyH_ready (rs := [2]) (by kernel_rfl) (by simp) ?_; refine AllReadyH.cons rfl (fun K hK => ?_) AllReadyH.nil; go_simp; (first | (go_at_call 40; refine (toCourse_any _ _ _ _ _ _ (HF.out.ext (X5.out.trans (EX.out.trans (by first | assumption | exact (Ext.refl _).drew)))) HL.out).mono ?_; rintro e w10 ⟨B10, rfl, -, O10, hy⟩) | (go_at_call 43; refine (eqCourse_same _ _ _ _ _ _ _ _ ((P6.out.ext (by assumption)).mks HM.out) (O10.mks HM.out)).mono ?_; rintro e w11 ⟨rfl, hy⟩)); go_wp2_with fail; (refine hK.out _ _ (by first | assumption | exact Ext.trans (by assumption) hy | exact Res.ext (by assumption) hy | exact ResB.ext (by assumption) hy | exact ResC.ext (by assumption) hy | (go_split_ands; (repeat' apply And.intro) <;> exact Ext.cellOf hy (by assumption))) (fun hHeld => ?_)); clear hK K; (try simp only [Act.put, Ord.a, Ord.b, Ord.c]))
  (refine wpAnyH_ready (rs := [3]) (by kernel_rfl) (by simp) ?_; refine AllReadyH.cons rfl (fun K hK => ?_) AllReadyH.nil; go_simp; (first | (go_at_call 40; refine (toCourse_any _ _ _ _ _ _ (HF.out.ext (X5.out.trans (EX.out.trans (by first | assumption | exact (Ext.refl _).drew)))) HL.out).mono ?_; rintro e w10 ⟨B10, rfl, -, O10, hy⟩) | (go_at_call 43; refine (eqCourse_same _ _ _ _ _ _ _ _ ((P6.out.ext (by assumption)).mks HM.out) (O10.mks HM.out)).mono ?_; rintro e w11 ⟨rfl, hy⟩)); go_wp2_with fail; (refine hK.out _ _ (by first | assumption | exact Ext.trans (by assumption) hy | exact Res.ext (by assumption) hy | exact ResB.ext (by assumption) hy | exact ResC.ext (by assumption) hy | (go_split_ands; (repeat' apply And.intro) <;> exact Ext.cellOf hy (by assumption))) (fun hHeld => ?_)); clear hK K; (try simp only [Act.put, Ord.a, Ord.b, Ord.c]))
  refine Ord.K 4 62 ?_
  refine wpAnyH_done (by kernel_rfl) ?_ _
  have h : Ext w9 w11 := hHeld
  replace P6 := Lib.hid (P6.out.ext h)
  replace BX := Lib.hid (BX.out.ext h)
  replace HT7 := Lib.hid (HT7.out.ext h)
  replace P1 := Lib.hid (P1.out.ext h)
  replace EX := Lib.hid (EX.out.trans h)
  clear h hHeld hy O10 B8 e0 e1 e2 e3 e4 e5 e6 e7 e8 f0 f1 f2 f3 f4 f5 f6 f7 f8
  go_wp2_with fail
  refine (toTrackS_any _ _ _ _ (HT.out.ext (X5.out.trans EX.out)) HL2.out.1 HL2.out.2).mono ?_
  rintro e w12 ⟨B12, us12, rfl, -, hs12, T12, h⟩
  replace P6 := Lib.hid (P6.out.ext h)
  replace BX := Lib.hid (BX.out.ext h)
  replace HT7 := Lib.hid (HT7.out.ext h)
  replace P1 := Lib.hid (P1.out.ext h)
  replace EX := Lib.hid (EX.out.trans h)
  clear h
  go_wp2_with fail
  have hsame : SameT us7 us12 := ⟨hs12.1.trans HS7.out.1.symm, fun i hi => (hs12.2 i (by have := HS7.out.1; omega)).trans (HS7.out.2 i (by have := HS7.out.1; omega)).symm⟩
  have KE := eqTrackS_same (some ⟨W6.heap.size, 0, none⟩) (some ⟨B12, 0, none⟩) ts.length ts.length us7 us12 _ (HK7.out _ HT7.out) T12 hsame
  rw [HS7.out.1] at KE
  refine KE.mono ?_
  rintro e w13 ⟨rfl, h⟩
  replace P6 := Lib.hid (P6.out.ext h)
  replace BX := Lib.hid (BX.out.ext h)
  replace HT7 := Lib.hid (HT7.out.ext h)
  replace P1 := Lib.hid (P1.out.ext h)
  replace EX := Lib.hid (EX.out.trans h)
  clear h hsame T12 hs12
  obtain ⟨⟨p0, p1, p2, p3, p4, p5, p6, p7, p8⟩, _⟩ := Box.nine BX.out
  have SE := Lib.hid (smF_same HS7.out ts.length (Nat.le_refl _))
  have L7 := Lib.hid HS7.out.1
  go_wp2_with fail
  refine (markCourse_any l k B6 _ w6.heap.size ms 1 _ P6.out HL.out (by omega)).mono ?_
  rintro e w14 ⟨rfl, C, hC, h⟩
  have hs6 := s6.out
  have HL5 := HL.out
  have HS5 := HSM.out
  have c1 : w5.heap.size ≤ C := by rcases hC with ⟨_, rfl⟩ | rfl <;> omega
  have c2 : C ≤ w6.heap.size := by
    rcases hC with ⟨h0, rfl⟩ | rfl
    · have := n6 h0; omega
    · omega
  clear hC p0 p1 p2 p3 p4 p5 p6 p7 p8
  replace EX := Lib.hid (h.ext EX.out c1)
  replace P1 := Lib.hid (P1.out.chg h (P1.out.block (by omega)))
  replace HT7 := Lib.hid (HT7.out.chg h (by omega) (by omega))
  clear h P6 BX
  have zn : decide (((1 + 5 * ms.length : Nat) : Int) + 3 * ((smF us7 us7.length : Nat) : Int) < 0) = false := decide_eq_false (by omega)
  have zn2 : ¬ (((1 + 5 * ms.length : Nat) : Int) + 3 * ((smF us7 us7.length : Nat) : Int) < 0) := by omega
  have KMT := Lib.hid (markTrackS_any W6.heap.size ts.length (W6.heap.size + 1) w7.heap.size us7 ((1 + 5 * ms.length : Nat) : Int) w14 HT7.out (by omega) (by rw [HS7.out.1, SE.out]; exact HS5) (by omega) (by omega))
  clear SE L7
  rw [HS7.out.1] at KMT zn zn2
  generalize smF us7 ts.length = sm at KMT zn zn2
  clear hs6
  go_wp2_with fail
  refine KMT.out.mono ?_
  rintro e w15 ⟨rfl, h⟩
  replace EX := Lib.hid (h.ext EX.out (by have := s6.out; omega))
  replace P1 := Lib.hid (show OwnZ w15 w7.heap.size (.slice a1 ps.length cap1) ps from row_chgR P1.out h (Nat.le_refl _))
  clear h HT7 KMT
  obtain ⟨_, _, e1, F1⟩ := P1.out.zxs HP2.out
  cases e1
  go_wp2_with fail
  refine (eqInt64S_same _ _ _ _ _ _ F1 (F0.out.ext EX.out)).mono ?_
  rintro e w16 ⟨rfl, h⟩
  replace EX := Lib.hid (EX.out.trans h)
  replace P1 := Lib.hid (P1.out.ext h)
  clear h F1
  go_wp2_with fail
  refine (markOwnZ_any _ _ _ 1 _ P1.out HP.out (by decide) (by decide)).mono ?_
  rintro e w17 ⟨rfl, HH, h⟩
  replace EX := Lib.hid (h.ext EX.out (by have := s6.out; omega))
  replace HH := Lib.hid HH
  clear h P1
  have HP5 := HP.out
  have zg : decide ((1 : Int) + (ps.length : Int) < 0) = false := decide_eq_false (by omega)
  have zg2 : ¬ ((1 : Int) + (ps.length : Int) < 0) := by omega
  go_wp2_with fail
  refine (heldOwnZ_any _ _ 1 _ HH.out HP.out (by decide) (by decide)).mono ?_
  rintro e w18 ⟨rfl, rfl⟩
  obtain ⟨⟨p0, p1, p2, p3, p4, p5, p6, p7, p8⟩, _⟩ := Box.nine (BB.out.ext (X5.out.trans EX.out))
  go_wp2_with fail
  refine (toCourse_any _ _ _ _ _ _ (HF.out.ext (X5.out.trans EX.out)) HL.out).mono ?_
  rintro e w19 ⟨B19, rfl, -, O19, h⟩
  replace EX := Lib.hid (EX.out.trans h)
  replace HH := Lib.hid (HH.out.ext h)
  clear h p0 p1 p2 p3 p4 p5 p6 p7 p8
  go_wp2_with fail
  refine (toTrackS_any _ _ _ _ (HT.out.ext (X5.out.trans EX.out)) HL2.out.1 HL2.out.2).mono ?_
  rintro e w20 ⟨B20, us20, rfl, -, hs20, T20, h⟩
  replace EX := Lib.hid (EX.out.trans h)
  replace HH := Lib.hid (HH.out.ext h)
  replace O19 := O19.ext h
  clear h
  go_wp2_with fail
  refine (KI.out _ _ _ _ us20 hs20 _ (O19.mks HM.out) T20).mono ?_
  rintro e w21 ⟨v2, rfl, O2, h⟩
  replace EX := Lib.hid (EX.out.trans h)
  replace HH := Lib.hid (HH.out.ext h)
  clear h O19 T20 hs20
  obtain ⟨a3, cap3, rfl, F2⟩ := O2.zxs HP2.out
  clear O2
  go_wp2_with fail
  refine (eqInt64S_same _ _ _ _ _ _ F2 (F0.out.ext EX.out)).mono ?_
  rintro e w22 ⟨rfl, h⟩
  replace EX := Lib.hid (EX.out.trans h)
  replace HH := Lib.hid (HH.out.ext h)
  clear h F2
  go_wp2_with fail
  refine (heldOwnZ_any _ _ 1 _ HH.out HP.out (by decide) (by decide)).mono ?_
  rintro e w23 ⟨rfl, rfl⟩
  go_wp2
  go_ret
  exact ⟨rfl, HW.out.trans (X5.out.trans EX.out)⟩
end Go.Proofs.YtmlojndkpnhalaaGreat.fnExactOrderAt
