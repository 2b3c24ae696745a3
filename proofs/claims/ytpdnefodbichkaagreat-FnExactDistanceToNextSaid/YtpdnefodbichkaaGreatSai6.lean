import Derived.Test.YtpdnefodbichkaaGreatMSai3
import Derived.Test.YtpdnefodbichkaaGreatSid
namespace Go.Proofs.YtpdnefodbichkaaGreat.Crs
open Go.ChangeShapes Go.WideShapes Go.ChangeAt Go.RowKit Go.PlainAid
open Go.Proofs.YtpdnefodbichkaaGreat.Num Go.Proofs.YtpdnefodbichkaaGreat.Kit Go.Proofs.YtpdnefodbichkaaGreat.Pts Go.Proofs.YtpdnefodbichkaaGreat.Seg Go.Proofs.YtpdnefodbichkaaGreat.Div Go.Proofs.YtpdnefodbichkaaGreat.Root Go.Proofs.YtpdnefodbichkaaGreat.Rt Go.Proofs.YtpdnefodbichkaaGreat.Gcd
open Go.Proofs.YtpdnefodbichkaaGreat.Trk (F3 Fxs Tr trB lastB pkX pkY legOf pk_Co trB_yes)
set_option linter.unusedVariables false
set_option linter.unusedSimpArgs false
def dnC (l k : L4) (ms : List M5) (fs : List F3) (t : Int) : Int := if tsC l k ms fs = 0 then (if rcN (tsZ l k ms fs) t = ms.length + 2 then 5 else if lastB fs t = true then 0 else 3) else tsC l k ms fs
def dnX (l k : L4) (ms : List M5) (fs : List F3) (t : Int) : Int := rt (sqD (pkX fs t (legOf fs t)) (pkY fs t (legOf fs t)) (stP l k ms (rcN (tsZ l k ms fs) t)).x (stP l k ms (rcN (tsZ l k ms fs) t)).y)
def dnV (l k : L4) (ms : List M5) (fs : List F3) (t : Int) : Int := if dnC l k ms fs t = 0 then dnX l k ms fs t else 0
theorem dt_bad {l k : L4} {ms : List M5} {fs : List F3} {t : Int} (h : tsC l k ms fs ≠ 0) : dnC l k ms fs t = tsC l k ms fs ∧ dnV l k ms fs t = 0 := by
  have e : dnC l k ms fs t = tsC l k ms fs := if_neg h
  exact ⟨e, by unfold dnV; rw [e, if_neg h]⟩
theorem dt_all {l k : L4} {ms : List M5} {fs : List F3} {t : Int} (h : tsC l k ms fs = 0) (g : rcN (tsZ l k ms fs) t = ms.length + 2) : dnC l k ms fs t = 5 ∧ dnV l k ms fs t = 0 := by
  have e : dnC l k ms fs t = 5 := by unfold dnC; rw [if_pos h, if_pos g]
  exact ⟨e, by unfold dnV; rw [e]; rfl⟩
theorem dt_out {l k : L4} {ms : List M5} {fs : List F3} {t : Int} (h : tsC l k ms fs = 0) (g : ¬ rcN (tsZ l k ms fs) t = ms.length + 2) (q : lastB fs t = false) : dnC l k ms fs t = 3 ∧ dnV l k ms fs t = 0 := by
  have e : dnC l k ms fs t = 3 := by unfold dnC; rw [if_pos h, if_neg g, q]; rfl
  exact ⟨e, by unfold dnV; rw [e]; rfl⟩
theorem dt_yes {l k : L4} {ms : List M5} {fs : List F3} {t : Int} (h : tsC l k ms fs = 0) (g : ¬ rcN (tsZ l k ms fs) t = ms.length + 2) (q : lastB fs t = true) : dnC l k ms fs t = 0 ∧ dnV l k ms fs t = dnX l k ms fs t := by
  have e : dnC l k ms fs t = 0 := by unfold dnC; rw [if_pos h, if_neg g, q]; rfl
  exact ⟨e, by unfold dnV; rw [e]; rfl⟩
set_option maxRecDepth 100000 in
set_option maxHeartbeats 8000000 in
theorem distanceToNext_impl (l k : L4) (a : Option Addr) (cap : Nat) (ms : List M5) (at_ : Option Addr) (ct : Nat) (fs : List F3) (t : Int) (w : World) (hf : Mks w a ms) (ht : Fxs w at_ fs) (hcap : fs.length ≤ ct) :
    Calls Tryz.prog 39 #[CV l k (.slice a ms.length cap), Tr (.slice at_ fs.length ct), .int .i64 t] w fun e w' => e = .returned (.tuple #[.int .i64 (dnV l k ms fs t), .int .i64 (dnC l k ms fs t)]) ∧ Ext w w' := by
  obtain ⟨W0, hW0⟩ : ∃ W0, W0 = (w.alloc (.cells (cellsC l k (.slice a ms.length cap)).toArray 30)).alloc (.cells #[.slice at_ fs.length ct] 33) := ⟨_, rfl⟩
  have HW := Lib.hid (show Ext w W0 from hW0 ▸ ((Ext.refl w).alloc _).alloc _)
  have BB := Lib.hid (show Box W0 w.heap.size (cellsC l k (.slice a ms.length cap)) from hW0 ▸ (Box.new rfl).alloc _)
  have CT := Lib.hid (show W0.cell? ⟨w.heap.size + 1, 0, none⟩ = some (.slice at_ fs.length ct) from hW0 ▸ boxed 0 rfl (by simp))
  have HF := Lib.hid (hf.ext HW.out)
  have HT := Lib.hid (ht.ext HW.out)
  clear hf ht
  have KR := Lib.hid (reachedAt_impl l k a cap ms at_ ct fs t W0 HF.out HT.out)
  by_cases g : tsC l k ms fs = 0
  · obtain ⟨hq, hv, hl⟩ := lc_zero g
    obtain ⟨hv1, hv2⟩ := cr_lines hq
    have h8 := cr_eight hq
    have h2 := (trB_yes hv).1.1
    have KP := Lib.hid (fun w' h => stations_any l k a cap ms w' h h8 hv1 hv2)
    have SG := Lib.hid (fun (i : Nat) (hi : i < ms.length + 2) => cellsP_get _ _ _ (stL_at l k ms i hi))
    have LS := Lib.hid (fun w' h => Trk.lastsAt_any at_ ct fs t w' h (by omega))
    have RL := Nat.le_trans (rc_le (tsZ l k ms fs) t) ts_len
    have SC := Lib.hid (fun i => st_co (cr_pv hq) i)
    rw [g, show raV l k ms fs t = (rcN (tsZ l k ms fs) t : Nat) from if_pos g] at KR
    have HA := Lib.hid (fun h => dt_all (t := t) g h)
    have HO := Lib.hid (fun h1 h2 => dt_out (t := t) g h1 h2)
    have HD := Lib.hid (fun h1 h2 => dt_yes (t := t) g h1 h2)
    have HX := Lib.hid (show dnX l k ms fs t = rt (sqD (pkX fs t (legOf fs t)) (pkY fs t (legOf fs t)) (stP l k ms (rcN (tsZ l k ms fs) t)).x (stP l k ms (rcN (tsZ l k ms fs) t)).y) from rfl)
    obtain ⟨R, hR⟩ : ∃ R, R = rcN (tsZ l k ms fs) t := ⟨_, rfl⟩
    rw [← hR] at KR RL HA HO HD HX
    have HV := Lib.hid hv
    clear hR g hq hl hv hv1 hv2
    by_cases g1 : R = ms.length + 2
    · have H := Lib.hid (HA.out g1)
      have q1 : (((R : Nat) : Int) == ((ms.length + 2 : Nat) : Int)) = true := beq_iff_eq.2 (by omega)
      have q2 : (((R : Nat) : Int) == (ms.length : Int) + 2) = true := beq_iff_eq.2 (by omega)
      have q3 : ((R : Nat) : Int) = (ms.length : Int) + 2 := by omega
      clear HA HO HD HX SG SC
      go_enter Tryz.func39, Tryz.ntmps39
      go_wp2_with fail
      rw [← hW0]
      clear hW0
      refine KR.out.mono ?_
      rintro e w1 ⟨rfl, hx⟩
      obtain ⟨⟨p0, p1, p2, p3, p4, p5, p6, p7, p8⟩, _⟩ := Box.nine (BB.out.ext hx)
      go_wp2_with fail
      refine (KP.out _ (HF.out.ext hx)).mono ?_
      rintro e w2 ⟨v2, rfl, hO2, hy⟩
      obtain ⟨g5, c5, rfl, _, _, _⟩ := row_some hO2 (by omega)
      clear hO2
      go_wp2
      go_ret2
      exact ⟨ret_int2 H.out.2 H.out.1, HW.out.trans (hx.trans hy)⟩
    · have hR2 : R < ms.length + 2 := by omega
      have q1 : (((R : Nat) : Int) == ((ms.length + 2 : Nat) : Int)) = false := beq_eq_false_iff_ne.2 (by omega)
      have q2 : (((R : Nat) : Int) == (ms.length : Int) + 2) = false := beq_eq_false_iff_ne.2 (by omega)
      have q3 : ¬ ((R : Nat) : Int) = (ms.length : Int) + 2 := by omega
      cases hl : lastB fs t
      · have H := Lib.hid (HO.out g1 hl)
        rw [hl] at LS
        clear HA HO HD HX SG SC hl
        go_enter Tryz.func39, Tryz.ntmps39
        go_wp2_with fail
        rw [← hW0]
        clear hW0
        refine KR.out.mono ?_
        rintro e w1 ⟨rfl, hx⟩
        obtain ⟨⟨p0, p1, p2, p3, p4, p5, p6, p7, p8⟩, _⟩ := Box.nine (BB.out.ext hx)
        go_wp2_with fail
        refine (KP.out _ (HF.out.ext hx)).mono ?_
        rintro e w2 ⟨v2, rfl, hO2, hy⟩
        obtain ⟨g5, c5, rfl, _, _, _⟩ := row_some hO2 (by omega)
        have X2 := Lib.hid (hx.trans hy)
        have c9 := X2.out.cellOf CT.out
        clear hO2 hx hy p0 p1 p2 p3 p4 p5 p6 p7 p8
        go_wp2_with fail
        refine (LS.out _ (HT.out.ext X2.out)).mono ?_
        rintro e w3 ⟨rfl, hz⟩
        go_wp2
        go_ret2
        exact ⟨ret_int2 H.out.2 H.out.1, HW.out.trans (X2.out.trans hz)⟩
      · have H := Lib.hid (HD.out g1 hl)
        obtain ⟨s0, s1⟩ := SC.out R
        obtain ⟨d0, d1⟩ := pk_Co HV.out hl
        have PA := Lib.hid (fun w' h => Trk.positionAt_any at_ ct fs t w' h hcap HV.out hl)
        rw [hl] at LS
        have SR := Lib.hid (SG.out R hR2)
        clear HA HO HD SG SC hl
        obtain ⟨P, hP⟩ : ∃ P, P = pkX fs t (legOf fs t) := ⟨_, rfl⟩
        obtain ⟨Q, hQ⟩ : ∃ Q, Q = pkY fs t (legOf fs t) := ⟨_, rfl⟩
        obtain ⟨S, hS⟩ : ∃ S, S = stP l k ms R := ⟨_, rfl⟩
        rw [← hP, ← hQ] at PA
        rw [← hP, ← hQ, ← hS] at HX
        rw [← hP] at d0
        rw [← hQ] at d1
        rw [← hS] at s0 s1 SR
        clear hP hQ hS
        have PV := Lib.hid (fun w' => vectorTo_any P Q S.x S.y w' d0 d1 s0 s1)
        have PL := Lib.hid (fun w' => length_any (S.x - P) (S.y - Q) w' (by unfold Co at *; omega) (by unfold Co at *; omega))
        have HE := Lib.hid (show (S.x - P) * (S.x - P) + (S.y - Q) * (S.y - Q) = sqD P Q S.x S.y from rfl)
        rw [HE.out, ← HX.out] at PL
        have r0 : (0 : Int) ≤ ((R : Nat) : Int) := by omega
        have r1 : ((R : Nat) : Int) < (ms.length : Int) + 2 := by omega
        have r2 : ((R : Nat) : Int) < ((ms.length + 2 : Nat) : Int) := by omega
        clear d0 d1 s0 s1
        go_enter Tryz.func39, Tryz.ntmps39
        go_wp2_with fail
        rw [← hW0]
        clear hW0
        refine KR.out.mono ?_
        rintro e w1 ⟨rfl, hx⟩
        obtain ⟨⟨p0, p1, p2, p3, p4, p5, p6, p7, p8⟩, _⟩ := Box.nine (BB.out.ext hx)
        go_wp2_with fail
        refine (KP.out _ (HF.out.ext hx)).mono ?_
        rintro e w2 ⟨v2, rfl, hO2, hy⟩
        obtain ⟨g5, c5, rfl, _, _, hC⟩ := row_some hO2 (by omega)
        have c0 := (hC (R * 2) (by omega)).trans SR.out.1
        have c1 := (hC (R * 2 + 1) (by omega)).trans SR.out.2
        have X2 := Lib.hid (hx.trans hy)
        have c9 := X2.out.cellOf CT.out
        clear hO2 hx hy hC p0 p1 p2 p3 p4 p5 p6 p7 p8
        go_wp2_with fail
        refine (LS.out _ (HT.out.ext X2.out)).mono ?_
        rintro e w3 ⟨rfl, hz⟩
        replace c0 := hz.cellOf c0
        replace c1 := hz.cellOf c1
        replace c9 := hz.cellOf c9
        replace X2 := Lib.hid (X2.out.trans hz)
        clear hz
        have e0 : ∀ w', Ext w3 w' → w'.cell? ⟨g5, R * 2, none⟩ = some (.int .i64 S.x) := fun w' h => h.cellOf c0
        have e1 : ∀ w', Ext w3 w' → w'.cell? ⟨g5, R * 2 + 1, none⟩ = some (.int .i64 S.y) := fun w' h => h.cellOf c1
        have e9 : ∀ w', Ext w3 w' → w'.cell? ⟨w.heap.size + 1, 0, none⟩ = some (.slice at_ fs.length ct) := fun w' h => h.cellOf c9
        go_upto_region 9 with fail
        clear c0 c1 c9
        refine wp_region_held_drew (S := (fun w' => Ext w3 w')) (by kernel_rfl) (by (try dsimp only); first | go_keep | exact (Ext.refl _).drew | exact Res.new2.drew | exact Res.new4.drew | exact ResB.drew (by assumption) | exact ResC.drew (by assumption) | assumption | exact Ext.drew (by assumption) | exact Res.drew (by assumption)) (fun hHeld => ?_)
        refine Ord.K 0 31 ?_
        refine Ord.K 1 32 ?_
        refine Ord.K 3 34 ?_
        refine Ord.K 4 35 ?_
        refine Ord.K 5 36 ?_
        refine Ord.K 6 37 ?_
        (refine wpAnyH_ready (rs := [2]) (by kernel_rfl) (by simp) ?_; refine AllReadyH.cons rfl (fun K hK => ?_) AllReadyH.nil; go_simp; (first | (go_at_call 84; refine (PA.out _ (HT.out.ext (X2.out.trans (by first | assumption | exact (Ext.refl _).drew)))).mono ?_; rintro e w4 ⟨rfl, hy⟩) | (go_at_call 85; refine (PV.out _).mono ?_; rintro e w5 ⟨rfl, hy⟩) | (go_at_call 86; refine (PL.out _).mono ?_; rintro e w6 ⟨rfl, hy⟩)); go_wp2_with fail; (refine hK.out _ _ (by first | assumption | exact Ext.trans (by assumption) hy | exact Res.ext (by assumption) hy | exact ResB.ext (by assumption) hy | exact ResC.ext (by assumption) hy | (go_split_ands; (repeat' apply And.intro) <;> exact Ext.cellOf hy (by assumption))) (fun hHeld => ?_)); clear hK K; (try simp only [Act.put, Ord.a, Ord.b, Ord.c]))
        (refine wpAnyH_ready (rs := [7]) (by kernel_rfl) (by simp) ?_; refine AllReadyH.cons rfl (fun K hK => ?_) AllReadyH.nil; go_simp; (first | (go_at_call 84; refine (PA.out _ (HT.out.ext (X2.out.trans (by first | assumption | exact (Ext.refl _).drew)))).mono ?_; rintro e w4 ⟨rfl, hy⟩) | (go_at_call 85; refine (PV.out _).mono ?_; rintro e w5 ⟨rfl, hy⟩) | (go_at_call 86; refine (PL.out _).mono ?_; rintro e w6 ⟨rfl, hy⟩)); go_wp2_with fail; (refine hK.out _ _ (by first | assumption | exact Ext.trans (by assumption) hy | exact Res.ext (by assumption) hy | exact ResB.ext (by assumption) hy | exact ResC.ext (by assumption) hy | (go_split_ands; (repeat' apply And.intro) <;> exact Ext.cellOf hy (by assumption))) (fun hHeld => ?_)); clear hK K; (try simp only [Act.put, Ord.a, Ord.b, Ord.c]))
        (refine wpAnyH_ready (rs := [8]) (by kernel_rfl) (by simp) ?_; refine AllReadyH.cons rfl (fun K hK => ?_) AllReadyH.nil; go_simp; (first | (go_at_call 84; refine (PA.out _ (HT.out.ext (X2.out.trans (by first | assumption | exact (Ext.refl _).drew)))).mono ?_; rintro e w4 ⟨rfl, hy⟩) | (go_at_call 85; refine (PV.out _).mono ?_; rintro e w5 ⟨rfl, hy⟩) | (go_at_call 86; refine (PL.out _).mono ?_; rintro e w6 ⟨rfl, hy⟩)); go_wp2_with fail; (refine hK.out _ _ (by first | assumption | exact Ext.trans (by assumption) hy | exact Res.ext (by assumption) hy | exact ResB.ext (by assumption) hy | exact ResC.ext (by assumption) hy | (go_split_ands; (repeat' apply And.intro) <;> exact Ext.cellOf hy (by assumption))) (fun hHeld => ?_)); clear hK K; (try simp only [Act.put, Ord.a, Ord.b, Ord.c]))
        refine Ord.K 9 6 ?_
        refine Ord.K 10 7 ?_
        refine wpAnyH_done (by kernel_rfl) ?_ _
        go_wp2
        go_ret2
        exact ⟨ret_int2 H.out.2 H.out.1, HW.out.trans (X2.out.trans hHeld)⟩
  · have H := Lib.hid (dt_bad (t := t) g)
    have g1 : (tsC l k ms fs != 0) = true := by simp [g]
    have g2 : (tsC l k ms fs == 0) = false := beq_eq_false_iff_ne.2 g
    obtain ⟨C, hC⟩ : ∃ C, C = tsC l k ms fs := ⟨_, rfl⟩
    rw [← hC] at KR g1 g2 H
    clear g hC
    go_enter Tryz.func39, Tryz.ntmps39
    go_wp2_with fail
    rw [← hW0]
    clear hW0
    refine KR.out.mono ?_
    rintro e w1 ⟨rfl, hx⟩
    go_wp2
    go_ret2
    exact ⟨ret_int2 H.out.2 H.out.1, HW.out.trans hx⟩
set_option maxRecDepth 100000 in
set_option maxHeartbeats 8000000 in
theorem distanceToNext_spec (l k : L4) (a : Option Addr) (cap : Nat) (ms : List M5) (at_ : Option Addr) (ct : Nat) (fs : List F3) (t : Int) (w : World) (hf : Mks w a ms) (ht : Fxs w at_ fs) :
    Calls Tryz.prog 38 #[CV l k (.slice a ms.length cap), Tr (.slice at_ fs.length ct), .int .i64 t] w fun e w' => e = .returned (.tuple #[.int .i64 (dnV l k ms fs t), .int .i64 (dnC l k ms fs t)]) ∧ Ext w w' := by
  obtain ⟨W0, hW0⟩ : ∃ W0, W0 = (w.alloc (.cells (cellsC l k (.slice a ms.length cap)).toArray 30)).alloc (.cells #[.slice at_ fs.length ct] 33) := ⟨_, rfl⟩
  have HW := Lib.hid (show Ext w W0 from hW0 ▸ ((Ext.refl w).alloc _).alloc _)
  have BB := Lib.hid (show Box W0 w.heap.size (cellsC l k (.slice a ms.length cap)) from hW0 ▸ (Box.new rfl).alloc _)
  have CT := Lib.hid (show W0.cell? ⟨w.heap.size + 1, 0, none⟩ = some (.slice at_ fs.length ct) from hW0 ▸ boxed 0 rfl (by simp))
  have HF := Lib.hid (hf.ext HW.out)
  have HT := Lib.hid (ht.ext HW.out)
  clear hf ht
  have KC := Lib.hid (l06Code_spec l k a cap ms at_ ct fs W0 HF.out HT.out)
  by_cases g : tsC l k ms fs = 0
  · obtain ⟨hq, hv, hl⟩ := lc_zero g
    obtain ⟨hv1, hv2⟩ := cr_lines hq
    have h8 := cr_eight hq
    have h2 := (trB_yes hv).1.1
    have KP := Lib.hid (fun w' h => stations_spec l k a cap ms w' h h8 hv1 hv2)
    have SG := Lib.hid (fun (i : Nat) (hi : i < ms.length + 2) => cellsP_get _ _ _ (stL_at l k ms i hi))
    have LS := Lib.hid (fun w' h => Trk.lasts_spec at_ ct fs t w' h (by omega))
    have KT := Lib.hid (fun w' h1 h2 => l06Times_spec l k a cap ms at_ ct fs w' h1 h2 hq hl hv)
    have LN := Lib.hid (ts_facts l k ms fs)
    rw [← ts_yes g] at KT
    have RL := Nat.le_trans (rc_le (tsZ l k ms fs) t) ts_len
    have SC := Lib.hid (fun i => st_co (cr_pv hq) i)
    rw [g] at KC
    have HA := Lib.hid (fun h => dt_all (t := t) g h)
    have HO := Lib.hid (fun h1 h2 => dt_out (t := t) g h1 h2)
    have HD := Lib.hid (fun h1 h2 => dt_yes (t := t) g h1 h2)
    have HX := Lib.hid (show dnX l k ms fs t = rt (sqD (pkX fs t (legOf fs t)) (pkY fs t (legOf fs t)) (stP l k ms (rcN (tsZ l k ms fs) t)).x (stP l k ms (rcN (tsZ l k ms fs) t)).y) from rfl)
    obtain ⟨zs, hzs⟩ : ∃ zs, zs = tsZ l k ms fs := ⟨_, rfl⟩
    rw [← hzs] at KT LN RL HA HO HD HX
    have KN := Lib.hid (fun az cz w' h => l06Reached_spec az cz zs t w' h (by have := LN.out.2.2; omega))
    obtain ⟨R, hR⟩ : ∃ R, R = rcN zs t := ⟨_, rfl⟩
    rw [← hR] at KN RL HA HO HD HX
    have HV := Lib.hid hv
    clear hR g hq hl hv hv1 hv2 hzs
    go_enter Tryz.func38, Tryz.ntmps38
    go_wp2_with fail
    rw [← hW0]
    clear hW0
    refine KC.out.mono ?_
    rintro e w1 ⟨rfl, hx⟩
    obtain ⟨⟨p0, p1, p2, p3, p4, p5, p6, p7, p8⟩, _⟩ := Box.nine (BB.out.ext hx)
    go_wp2_with fail
    refine (KP.out _ (HF.out.ext hx)).mono ?_
    rintro e w2 ⟨v2, rfl, hO2, hy⟩
    obtain ⟨g5, c5, rfl, _, _, hC⟩ := row_some hO2 (by omega)
    have HC := Lib.hid hC
    have X2 := Lib.hid (hx.trans hy)
    clear hO2 hx hy hC p0 p1 p2 p3 p4 p5 p6 p7 p8
    have c9 := X2.out.cellOf CT.out
    obtain ⟨⟨p0, p1, p2, p3, p4, p5, p6, p7, p8⟩, _⟩ := Box.nine (BB.out.ext X2.out)
    go_wp2_with fail
    refine (KT.out _ (HF.out.ext X2.out) (HT.out.ext X2.out)).mono ?_
    rintro e w3 ⟨v3, rfl, hO3, hy⟩
    obtain ⟨az, cz, rfl, hZ⟩ := hO3.zxs (by unfold maxLen; have := LN.out.2.2; omega)
    have K9 := Lib.hid (KN.out az cz w3 hZ)
    have X3 := Lib.hid (X2.out.trans hy)
    have HY := Lib.hid hy
    clear hy hO3 hZ c9 p0 p1 p2 p3 p4 p5 p6 p7 p8
    go_wp2_with fail
    refine K9.out.mono ?_
    rintro e w4 ⟨rfl, hz⟩
    have X4 := Lib.hid (X3.out.trans hz)
    have HYZ := Lib.hid (HY.out.trans hz)
    have c9 := X4.out.cellOf CT.out
    clear hz
    by_cases g1 : R = ms.length + 2
    · have H := Lib.hid (HA.out g1)
      have q1 : (((R : Nat) : Int) == ((ms.length + 2 : Nat) : Int)) = true := beq_iff_eq.2 (by omega)
      have q2 : (((R : Nat) : Int) == (ms.length : Int) + 2) = true := beq_iff_eq.2 (by omega)
      have q3 : ((R : Nat) : Int) = (ms.length : Int) + 2 := by omega
      clear HA HO HD HX SG SC
      go_wp2
      go_ret2
      exact ⟨ret_int2 H.out.2 H.out.1, HW.out.trans X4.out⟩
    · have hR2 : R < ms.length + 2 := by omega
      have q1 : (((R : Nat) : Int) == ((ms.length + 2 : Nat) : Int)) = false := beq_eq_false_iff_ne.2 (by omega)
      have q2 : (((R : Nat) : Int) == (ms.length : Int) + 2) = false := beq_eq_false_iff_ne.2 (by omega)
      have q3 : ¬ ((R : Nat) : Int) = (ms.length : Int) + 2 := by omega
      cases hl : lastB fs t
      · have H := Lib.hid (HO.out g1 hl)
        rw [hl] at LS
        clear HA HO HD HX SG SC hl
        go_wp2_with fail
        refine (LS.out _ (HT.out.ext X4.out)).mono ?_
        rintro e w5 ⟨rfl, hz⟩
        go_wp2
        go_ret2
        exact ⟨ret_int2 H.out.2 H.out.1, HW.out.trans (X4.out.trans hz)⟩
      · have H := Lib.hid (HD.out g1 hl)
        obtain ⟨s0, s1⟩ := SC.out R
        obtain ⟨d0, d1⟩ := pk_Co HV.out hl
        have PA := Lib.hid (fun w' h => Trk.at_spec at_ ct fs t w' h HV.out hl)
        rw [hl] at LS
        have SR := SG.out R hR2
        have c0 := HYZ.out.cellOf ((HC.out (R * 2) (by omega)).trans SR.1)
        have c1 := HYZ.out.cellOf ((HC.out (R * 2 + 1) (by omega)).trans SR.2)
        clear HA HO HD SG SC hl SR
        obtain ⟨P, hP⟩ : ∃ P, P = pkX fs t (legOf fs t) := ⟨_, rfl⟩
        obtain ⟨Q, hQ⟩ : ∃ Q, Q = pkY fs t (legOf fs t) := ⟨_, rfl⟩
        obtain ⟨S, hS⟩ : ∃ S, S = stP l k ms R := ⟨_, rfl⟩
        rw [← hP, ← hQ] at PA
        rw [← hP, ← hQ, ← hS] at HX
        rw [← hP] at d0
        rw [← hQ] at d1
        rw [← hS] at s0 s1 c0 c1
        clear hP hQ hS
        have PV := Lib.hid (fun w' => square_any P Q S.x S.y w' d0 d1 s0 s1)
        obtain ⟨b0, b1⟩ := sqs_bd (x := S.x - P) (y := S.y - Q) (by unfold Co at *; omega) (by unfold Co at *; omega)
        have HE : (S.x - P) * (S.x - P) + (S.y - Q) * (S.y - Q) = sqD P Q S.x S.y := rfl
        rw [HE] at b0 b1
        have PL := Lib.hid (fun w' => rootE (sqD P Q S.x S.y) w' b0 (by omega))
        rw [← HX.out] at PL
        have r0 : (0 : Int) ≤ ((R : Nat) : Int) := by omega
        have r1 : ((R : Nat) : Int) < (ms.length : Int) + 2 := by omega
        have r2 : ((R : Nat) : Int) < ((ms.length + 2 : Nat) : Int) := by omega
        clear d0 d1 s0 s1 HE b0 b1
        go_wp2_with fail
        refine (LS.out _ (HT.out.ext X4.out)).mono ?_
        rintro e w5 ⟨rfl, hz⟩
        replace c0 := hz.cellOf c0
        replace c1 := hz.cellOf c1
        replace c9 := hz.cellOf c9
        have X5 := Lib.hid (X4.out.trans hz)
        clear hz
        have e0 : ∀ w', Ext w5 w' → w'.cell? ⟨g5, R * 2, none⟩ = some (.int .i64 S.x) := fun w' h => h.cellOf c0
        have e1 : ∀ w', Ext w5 w' → w'.cell? ⟨g5, R * 2 + 1, none⟩ = some (.int .i64 S.y) := fun w' h => h.cellOf c1
        have e9 : ∀ w', Ext w5 w' → w'.cell? ⟨w.heap.size + 1, 0, none⟩ = some (.slice at_ fs.length ct) := fun w' h => h.cellOf c9
        go_upto_region 10 with fail
        clear c0 c1 c9
        refine wp_region_held_drew (S := (fun w' => Ext w5 w')) (by kernel_rfl) (by (try dsimp only); first | go_keep | exact (Ext.refl _).drew | exact Res.new2.drew | exact Res.new4.drew | exact ResB.drew (by assumption) | exact ResC.drew (by assumption) | assumption | exact Ext.drew (by assumption) | exact Res.drew (by assumption)) (fun hHeld => ?_)
        refine Ord.K 0 32 ?_
        refine Ord.K 1 33 ?_
        refine Ord.K 3 35 ?_
        refine Ord.K 4 36 ?_
        refine Ord.K 5 37 ?_
        refine Ord.K 6 38 ?_
        (refine wpAnyH_ready (rs := [2]) (by kernel_rfl) (by simp) ?_; refine AllReadyH.cons rfl (fun K hK => ?_) AllReadyH.nil; go_simp; (first | (go_at_call 82; refine (PA.out _ (HT.out.ext (X5.out.trans (by first | assumption | exact (Ext.refl _).drew)))).mono ?_; rintro e w6 ⟨rfl, hy⟩) | (go_at_call 81; refine (PV.out _).mono ?_; rintro e w7 ⟨rfl, hy⟩) | (go_at_call 80; refine (PL.out _).mono ?_; rintro e w8 ⟨rfl, hy⟩)); go_wp2_with fail; (refine hK.out _ _ (by first | assumption | exact Ext.trans (by assumption) hy | exact Res.ext (by assumption) hy | exact ResB.ext (by assumption) hy | exact ResC.ext (by assumption) hy | (go_split_ands; (repeat' apply And.intro) <;> exact Ext.cellOf hy (by assumption))) (fun hHeld => ?_)); clear hK K; (try simp only [Act.put, Ord.a, Ord.b, Ord.c]))
        (refine wpAnyH_ready (rs := [7]) (by kernel_rfl) (by simp) ?_; refine AllReadyH.cons rfl (fun K hK => ?_) AllReadyH.nil; go_simp; (first | (go_at_call 82; refine (PA.out _ (HT.out.ext (X5.out.trans (by first | assumption | exact (Ext.refl _).drew)))).mono ?_; rintro e w6 ⟨rfl, hy⟩) | (go_at_call 81; refine (PV.out _).mono ?_; rintro e w7 ⟨rfl, hy⟩) | (go_at_call 80; refine (PL.out _).mono ?_; rintro e w8 ⟨rfl, hy⟩)); go_wp2_with fail; (refine hK.out _ _ (by first | assumption | exact Ext.trans (by assumption) hy | exact Res.ext (by assumption) hy | exact ResB.ext (by assumption) hy | exact ResC.ext (by assumption) hy | (go_split_ands; (repeat' apply And.intro) <;> exact Ext.cellOf hy (by assumption))) (fun hHeld => ?_)); clear hK K; (try simp only [Act.put, Ord.a, Ord.b, Ord.c]))
        (refine wpAnyH_ready (rs := [8]) (by kernel_rfl) (by simp) ?_; refine AllReadyH.cons rfl (fun K hK => ?_) AllReadyH.nil; go_simp; (first | (go_at_call 82; refine (PA.out _ (HT.out.ext (X5.out.trans (by first | assumption | exact (Ext.refl _).drew)))).mono ?_; rintro e w6 ⟨rfl, hy⟩) | (go_at_call 81; refine (PV.out _).mono ?_; rintro e w7 ⟨rfl, hy⟩) | (go_at_call 80; refine (PL.out _).mono ?_; rintro e w8 ⟨rfl, hy⟩)); go_wp2_with fail; (refine hK.out _ _ (by first | assumption | exact Ext.trans (by assumption) hy | exact Res.ext (by assumption) hy | exact ResB.ext (by assumption) hy | exact ResC.ext (by assumption) hy | (go_split_ands; (repeat' apply And.intro) <;> exact Ext.cellOf hy (by assumption))) (fun hHeld => ?_)); clear hK K; (try simp only [Act.put, Ord.a, Ord.b, Ord.c]))
        refine Ord.K 9 6 ?_
        refine Ord.K 10 7 ?_
        refine wpAnyH_done (by kernel_rfl) ?_ _
        go_wp2
        go_ret2
        exact ⟨ret_int2 H.out.2 H.out.1, HW.out.trans (X5.out.trans hHeld)⟩
  · have H := Lib.hid (dt_bad (t := t) g)
    have g1 : (tsC l k ms fs != 0) = true := by simp [g]
    have g2 : (tsC l k ms fs == 0) = false := beq_eq_false_iff_ne.2 g
    obtain ⟨C, hC⟩ : ∃ C, C = tsC l k ms fs := ⟨_, rfl⟩
    rw [← hC] at KC g1 g2 H
    clear g hC
    go_enter Tryz.func38, Tryz.ntmps38
    go_wp2_with fail
    rw [← hW0]
    clear hW0
    refine KC.out.mono ?_
    rintro e w1 ⟨rfl, hx⟩
    go_wp2
    go_ret2
    exact ⟨ret_int2 H.out.2 H.out.1, HW.out.trans hx⟩
end Go.Proofs.YtpdnefodbichkaaGreat.Crs
