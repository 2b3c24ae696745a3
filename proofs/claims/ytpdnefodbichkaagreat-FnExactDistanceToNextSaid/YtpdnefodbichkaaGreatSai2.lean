import Derived.Test.YtpdnefodbichkaaGreatSai
namespace Go.Proofs.YtpdnefodbichkaaGreat.Crs
open Go.ChangeShapes Go.WideShapes Go.ChangeAt Go.RowKit Go.PlainAid
open Go.Proofs.YtpdnefodbichkaaGreat.Num Go.Proofs.YtpdnefodbichkaaGreat.Kit Go.Proofs.YtpdnefodbichkaaGreat.Pts Go.Proofs.YtpdnefodbichkaaGreat.Seg Go.Proofs.YtpdnefodbichkaaGreat.Div Go.Proofs.YtpdnefodbichkaaGreat.Root Go.Proofs.YtpdnefodbichkaaGreat.Rt Go.Proofs.YtpdnefodbichkaaGreat.Gcd
open Go.Proofs.YtpdnefodbichkaaGreat.Trk (F3 Fxs Tr trB)
set_option linter.unusedVariables false
set_option linter.unusedSimpArgs false
def ftC (l k : L4) (ms : List M5) (fs : List F3) : Int := if tsC l k ms fs = 0 then (if (tsZ l k ms fs).length < ms.length + 2 then 4 else 0) else tsC l k ms fs
def ftV (l k : L4) (ms : List M5) (fs : List F3) : Int := if ftC l k ms fs = 0 then nz (tsZ l k ms fs) ((tsZ l k ms fs).length - 1) else 0
theorem ft_bad {l k : L4} {ms : List M5} {fs : List F3} (h : tsC l k ms fs ≠ 0) : ftC l k ms fs = tsC l k ms fs ∧ ftV l k ms fs = 0 := by
  have e : ftC l k ms fs = tsC l k ms fs := if_neg h
  exact ⟨e, by unfold ftV; rw [e, if_neg h]⟩
theorem ft_no {l k : L4} {ms : List M5} {fs : List F3} (h : tsC l k ms fs = 0) (g : (tsZ l k ms fs).length < ms.length + 2) : ftC l k ms fs = 4 ∧ ftV l k ms fs = 0 := by
  have e : ftC l k ms fs = 4 := by unfold ftC; rw [if_pos h, if_pos g]
  exact ⟨e, by unfold ftV; rw [e]; rfl⟩
theorem ft_yes {l k : L4} {ms : List M5} {fs : List F3} (h : tsC l k ms fs = 0) (g : ¬ (tsZ l k ms fs).length < ms.length + 2) : ftC l k ms fs = 0 ∧ ftV l k ms fs = nz (tsZ l k ms fs) ((tsZ l k ms fs).length - 1) := by
  have e : ftC l k ms fs = 0 := by unfold ftC; rw [if_pos h, if_neg g]
  exact ⟨e, by unfold ftV; rw [e]; rfl⟩
theorem OwnZ.cell {w : World} {base g cap n : Nat} {zs : List Int} (h : OwnZ w base (.slice (some ⟨g, 0, none⟩) n cap) zs) (hn : n = zs.length) (i : Nat) (hi : i < zs.length) : w.cell? ⟨g, i, none⟩ = some (.int .i64 (nz zs i)) := by
  subst hn
  rw [World.ownsRow.cellAt h i (by omega)]
  unfold cellsZ
  rw [List.getElem?_map, nz_at hi]; rfl
theorem OwnZ.some' {w : World} {base : Nat} {v : Value} {zs : List Int} (h : OwnZ w base v zs) (h0 : 0 < zs.length) : ∃ g cap, v = .slice (some ⟨g, 0, none⟩) zs.length cap ∧ ∀ i, i < zs.length → w.cell? ⟨g, i, none⟩ = some (.int .i64 (nz zs i)) := by
  obtain ⟨g, cap, rfl, _, _, _⟩ := row_some h h0
  exact ⟨g, cap, rfl, fun i hi => h.cell rfl i hi⟩
set_option maxRecDepth 100000 in
set_option maxHeartbeats 4000000 in
theorem finishTime_impl (l k : L4) (a : Option Addr) (cap : Nat) (ms : List M5) (at_ : Option Addr) (ct : Nat) (fs : List F3) (w : World) (hf : Mks w a ms) (ht : Fxs w at_ fs) :
    Calls Tryz.prog 18 #[CV l k (.slice a ms.length cap), Tr (.slice at_ fs.length ct)] w fun e w' => e = .returned (.tuple #[.int .i64 (ftV l k ms fs), .int .i64 (ftC l k ms fs)]) ∧ Ext w w' := by
  obtain ⟨W0, hW0⟩ : ∃ W0, W0 = (w.alloc (.cells (cellsC l k (.slice a ms.length cap)).toArray 30)).alloc (.cells #[.slice at_ fs.length ct] 33) := ⟨_, rfl⟩
  have HW := Lib.hid (show Ext w W0 from hW0 ▸ ((Ext.refl w).alloc _).alloc _)
  have BB := Lib.hid (show Box W0 w.heap.size (cellsC l k (.slice a ms.length cap)) from hW0 ▸ (Box.new rfl).alloc _)
  have HF := Lib.hid (hf.ext HW.out)
  have HT := Lib.hid (ht.ext HW.out)
  clear hf ht
  have KS := Lib.hid (timesSailed_impl l k a cap ms at_ ct fs W0 HF.out HT.out)
  unfold TsA at KS
  by_cases g : tsC l k ms fs = 0
  · obtain ⟨hq, hv, hl⟩ := lc_zero g
    obtain ⟨hv1, hv2⟩ := cr_lines hq
    have h8 := cr_eight hq
    have KP := Lib.hid (fun w' h => stations_any l k a cap ms w' h h8 hv1 hv2)
    have LN := Lib.hid (ts_facts l k ms fs)
    rw [g] at KS
    clear hq hl hv hv1 hv2
    by_cases g2 : (tsZ l k ms fs).length < ms.length + 2
    · have H := Lib.hid (ft_no g g2)
      obtain ⟨zs, hz⟩ : ∃ zs, zs = tsZ l k ms fs := ⟨_, rfl⟩
      rw [← hz] at KS g2 LN
      clear hz g
      have g3 : (zs.length : Int) < ((ms.length + 2 : Nat) : Int) := by omega
      have g4 : (zs.length : Int) < (ms.length : Int) + 2 := by omega
      go_enter Tryz.func18, Tryz.ntmps18
      go_wp2_with fail
      rw [← hW0]
      clear hW0
      refine KS.out.mono ?_
      rintro e w1 ⟨v, rfl, hO, hx⟩
      obtain ⟨az, cz, rfl, hZ⟩ := hO.zxs (by unfold maxLen; have := LN.out.2.2; omega)
      obtain ⟨⟨p0, p1, p2, p3, p4, p5, p6, p7, p8⟩, _⟩ := Box.nine (BB.out.ext hx)
      clear hO hZ
      go_wp2_with fail
      refine (KP.out _ (HF.out.ext hx)).mono ?_
      rintro e w2 ⟨v2, rfl, hO2, hy⟩
      obtain ⟨g5, c5, rfl, _, _, _⟩ := row_some hO2 (by omega)
      clear hO2
      go_wp2
      go_ret2
      exact ⟨ret_int2 H.out.2 H.out.1, HW.out.trans (hx.trans hy)⟩
    · have H := Lib.hid (ft_yes g g2)
      obtain ⟨zs, hz⟩ : ∃ zs, zs = tsZ l k ms fs := ⟨_, rfl⟩
      rw [← hz] at KS g2 LN H
      clear hz g
      have l10 := LN.out.2.2
      have g3 : ¬ (zs.length : Int) < ((ms.length + 2 : Nat) : Int) := by omega
      have g4 : ¬ (zs.length : Int) < (ms.length : Int) + 2 := by omega
      have T1 : IntKind.i64.wrap ((zs.length : Int) - 1) = (zs.length : Int) - 1 := IntWalk.i64_in _ (by omega)
      have T2 : (0 : Int) ≤ (zs.length : Int) - 1 := by omega
      have T3 : (zs.length : Int) - 1 < (zs.length : Int) := by omega
      have T5 : (1 : Int) ≤ (zs.length : Int) := by omega
      have T4 : ((zs.length : Int) - 1).toNat = zs.length - 1 := by omega
      go_enter Tryz.func18, Tryz.ntmps18
      go_wp2_with fail
      rw [← hW0]
      clear hW0
      refine KS.out.mono ?_
      rintro e w1 ⟨v, rfl, hO, hx⟩
      obtain ⟨gz, cz, rfl, hZ⟩ := hO.some' (by omega)
      have c0 := hZ (zs.length - 1) (by omega)
      obtain ⟨⟨p0, p1, p2, p3, p4, p5, p6, p7, p8⟩, _⟩ := Box.nine (BB.out.ext hx)
      clear hO hZ
      go_wp2_with fail
      refine (KP.out _ (HF.out.ext hx)).mono ?_
      rintro e w2 ⟨v2, rfl, hO2, hy⟩
      obtain ⟨g5, c5, rfl, _, _, _⟩ := row_some hO2 (by omega)
      replace c0 := hy.cellOf c0
      clear hO2
      go_wp2
      go_ret2
      exact ⟨ret_int2 H.out.2 H.out.1, HW.out.trans (hx.trans hy)⟩
  · have H := Lib.hid (ft_bad g)
    have g1 : (tsC l k ms fs != 0) = true := by simp [g]
    have g2 : (tsC l k ms fs == 0) = false := beq_eq_false_iff_ne.2 g
    obtain ⟨C, hC⟩ : ∃ C, C = tsC l k ms fs := ⟨_, rfl⟩
    rw [← hC] at KS g1 g2 H
    clear g hC
    go_enter Tryz.func18, Tryz.ntmps18
    go_wp2_with fail
    rw [← hW0]
    clear hW0
    refine KS.out.mono ?_
    rintro e w1 ⟨v, rfl, -, hx⟩
    go_wp2
    go_ret2
    exact ⟨ret_int2 H.out.2 H.out.1, HW.out.trans hx⟩
set_option maxRecDepth 100000 in
set_option maxHeartbeats 4000000 in
theorem finishTime_spec (l k : L4) (a : Option Addr) (cap : Nat) (ms : List M5) (at_ : Option Addr) (ct : Nat) (fs : List F3) (w : World) (hf : Mks w a ms) (ht : Fxs w at_ fs) :
    Calls Tryz.prog 36 #[CV l k (.slice a ms.length cap), Tr (.slice at_ fs.length ct)] w fun e w' => e = .returned (.tuple #[.int .i64 (ftV l k ms fs), .int .i64 (ftC l k ms fs)]) ∧ Ext w w' := by
  obtain ⟨W0, hW0⟩ : ∃ W0, W0 = (w.alloc (.cells (cellsC l k (.slice a ms.length cap)).toArray 30)).alloc (.cells #[.slice at_ fs.length ct] 33) := ⟨_, rfl⟩
  have HW := Lib.hid (show Ext w W0 from hW0 ▸ ((Ext.refl w).alloc _).alloc _)
  have BB := Lib.hid (show Box W0 w.heap.size (cellsC l k (.slice a ms.length cap)) from hW0 ▸ (Box.new rfl).alloc _)
  have CT := Lib.hid (show W0.cell? ⟨w.heap.size + 1, 0, none⟩ = some (.slice at_ fs.length ct) from hW0 ▸ boxed 0 rfl (by simp))
  have HF := Lib.hid (hf.ext HW.out)
  have HT := Lib.hid (ht.ext HW.out)
  clear hf ht
  have KC := Lib.hid (l06Code_spec l k a cap ms at_ ct fs W0 HF.out HT.out)
  by_cases g : tsC l k ms fs = 0
  · obtain ⟨hq, hv, hl⟩ := lc_zero g
    have h8 := cr_eight hq
    have KT := Lib.hid (fun w' h1 h2 => l06Times_spec l k a cap ms at_ ct fs w' h1 h2 hq hl hv)
    have LN := Lib.hid (ts_facts l k ms fs)
    rw [← ts_yes g] at KT
    rw [g] at KC
    have T6 : IntKind.i64.wrap ((ms.length : Int) + 2) = (ms.length : Int) + 2 := IntWalk.i64_in _ (by omega)
    clear hq hl hv
    by_cases g2 : (tsZ l k ms fs).length < ms.length + 2
    · have H := Lib.hid (ft_no g g2)
      obtain ⟨zs, hz⟩ : ∃ zs, zs = tsZ l k ms fs := ⟨_, rfl⟩
      rw [← hz] at KT g2 LN
      clear hz g
      have g4 : (zs.length : Int) < (ms.length : Int) + 2 := by omega
      go_enter Tryz.func36, Tryz.ntmps36
      go_wp2_with fail
      rw [← hW0]
      clear hW0
      refine KC.out.mono ?_
      rintro e w1 ⟨rfl, hx⟩
      have c9 := hx.cellOf CT.out
      obtain ⟨⟨p0, p1, p2, p3, p4, p5, p6, p7, p8⟩, _⟩ := Box.nine (BB.out.ext hx)
      go_wp2_with fail
      refine (KT.out _ (HF.out.ext hx) (HT.out.ext hx)).mono ?_
      rintro e w2 ⟨v, rfl, hO, hy⟩
      obtain ⟨az, cz, rfl, hZ⟩ := hO.zxs (by unfold maxLen; have := LN.out.2.2; omega)
      replace p8 := hy.cellOf p8
      clear hO hZ p0 p1 p2 p3 p4 p5 p6 p7
      go_wp2
      go_ret2
      exact ⟨ret_int2 H.out.2 H.out.1, HW.out.trans (hx.trans hy)⟩
    · have H := Lib.hid (ft_yes g g2)
      obtain ⟨zs, hz⟩ : ∃ zs, zs = tsZ l k ms fs := ⟨_, rfl⟩
      rw [← hz] at KT g2 LN H
      clear hz g
      have l10 := LN.out.2.2
      have g4 : ¬ (zs.length : Int) < (ms.length : Int) + 2 := by omega
      have T1 : IntKind.i64.wrap ((zs.length : Int) - 1) = (zs.length : Int) - 1 := IntWalk.i64_in _ (by omega)
      have T2 : (0 : Int) ≤ (zs.length : Int) - 1 := by omega
      have T3 : (zs.length : Int) - 1 < (zs.length : Int) := by omega
      have T5 : (1 : Int) ≤ (zs.length : Int) := by omega
      have T4 : ((zs.length : Int) - 1).toNat = zs.length - 1 := by omega
      go_enter Tryz.func36, Tryz.ntmps36
      go_wp2_with fail
      rw [← hW0]
      clear hW0
      refine KC.out.mono ?_
      rintro e w1 ⟨rfl, hx⟩
      have c9 := hx.cellOf CT.out
      obtain ⟨⟨p0, p1, p2, p3, p4, p5, p6, p7, p8⟩, _⟩ := Box.nine (BB.out.ext hx)
      go_wp2_with fail
      refine (KT.out _ (HF.out.ext hx) (HT.out.ext hx)).mono ?_
      rintro e w2 ⟨v, rfl, hO, hy⟩
      obtain ⟨gz, cz, rfl, hZ⟩ := hO.some' (by omega)
      have c0 := hZ (zs.length - 1) (by omega)
      replace p8 := hy.cellOf p8
      clear hO hZ p0 p1 p2 p3 p4 p5 p6 p7
      go_wp2
      go_ret2
      exact ⟨ret_int2 H.out.2 H.out.1, HW.out.trans (hx.trans hy)⟩
  · have H := Lib.hid (ft_bad g)
    have g1 : (tsC l k ms fs != 0) = true := by simp [g]
    have g2 : (tsC l k ms fs == 0) = false := beq_eq_false_iff_ne.2 g
    obtain ⟨C, hC⟩ : ∃ C, C = tsC l k ms fs := ⟨_, rfl⟩
    rw [← hC] at KC g1 g2 H
    clear g hC
    go_enter Tryz.func36, Tryz.ntmps36
    go_wp2_with fail
    rw [← hW0]
    clear hW0
    refine KC.out.mono ?_
    rintro e w1 ⟨rfl, hx⟩
    go_wp2
    go_ret2
    exact ⟨ret_int2 H.out.2 H.out.1, HW.out.trans hx⟩
def rcN (zs : List Int) (t : Int) : Nat := zs.countP fun z => decide (z ≤ t)
theorem rc_le (zs : List Int) (t : Int) : rcN zs t ≤ zs.length := List.countP_le_length
theorem rc_take {zs : List Int} {t : Int} {j : Nat} (h : j < zs.length) : rcN (zs.take (j + 1)) t = if nz zs j ≤ t then rcN (zs.take j) t + 1 else rcN (zs.take j) t := by
  have e : zs.take (j + 1) = zs.take j ++ [nz zs j] := by
    rw [List.take_add_one, nz_at h]; rfl
  unfold rcN
  rw [e, List.countP_append]
  by_cases g : nz zs j ≤ t
  · rw [if_pos g]; simp [g]
  · rw [if_neg g]; simp [g]
theorem rc_at {zs : List Int} {t : Int} {h : Nat} (hh : h ≤ zs.length) (h1 : ∀ i, i < h → nz zs i ≤ t) (h2 : ∀ i, h ≤ i → i < zs.length → t < nz zs i) : rcN zs t = h := by
  have key : ∀ j, j ≤ zs.length → rcN (zs.take j) t = min j h := by
    intro j
    induction j with
    | zero => intro _; simp [rcN]
    | succ j ih =>
      intro hj
      rw [rc_take (by omega), ih (by omega)]
      by_cases g : j < h
      · rw [if_pos (h1 j g)]; omega
      · rw [if_neg (by have := h2 j (by omega) (by omega); omega)]; omega
  have := key zs.length (Nat.le_refl _)
  rw [List.take_length] at this
  omega
def RelRc (w : World) (zs : List Int) (t : Int) (n i : Value) (wr : World) : Prop := ∃ j : Nat, i = .int .i64 j ∧ n = .int .i64 ((rcN (zs.take j) t : Nat) : Int) ∧ j ≤ zs.length ∧ w = wr
theorem l06Reached_spec (a : Option Addr) (cap : Nat) (zs : List Int) (t : Int) (w : World) (hz : Zxs w a zs) (hl : zs.length ≤ 1000) :
    Calls Tryz.prog 51 #[.slice a zs.length cap, .int .i64 t] w fun e w' => e = .returned (.int .i64 (rcN zs t)) ∧ Ext w w' := by
  have HZ := Lib.hid hz
  clear hz
  go_enter Tryz.func51, Tryz.ntmps51
  go_wp2
  go_loopw [5, 6] (fun n i wr => RelRc w zs t n i wr) (fun n i _ => zs.length - (intOf i).toNat)
  case atStart => exact ⟨0, rfl, rfl, Nat.zero_le _, rfl⟩
  case round =>
    obtain ⟨j, rfl, rfl, hj, rfl⟩ := hrel
    by_cases hj1 : j < zs.length
    · obtain ⟨b, off, rfl, hb⟩ := HZ.out.row (by omega)
      have c0 := hb j hj1
      have j0 : (0 : Int) ≤ (j : Int) := by omega
      have j1 : (j : Int) < (zs.length : Int) := by omega
      have T7 : IntKind.i64.wrap ((j : Int) + 1) = (j : Int) + 1 := IntWalk.i64_in _ (by omega)
      have b1 := rc_le (zs.take j) t
      have b2 : (zs.take j).length ≤ 1000 := by simp; omega
      have RT := Lib.hid (rc_take (zs := zs) (t := t) hj1)
      obtain ⟨R, hR⟩ : ∃ R, R = rcN (zs.take j) t := ⟨_, rfl⟩
      rw [← hR] at RT b1 ⊢
      have T8 : IntKind.i64.wrap ((R : Int) + 1) = (R : Int) + 1 := IntWalk.i64_in _ (by omega)
      clear hR hb b1 b2
      by_cases g : nz zs j ≤ t
      · rw [if_pos g] at RT
        have d : decide (nz zs j ≤ t) = true := decide_eq_true g
        go_wp2
        go_roundw
        case rel => exact ⟨j + 1, by go_num, by rw [RT.out]; go_num, by omega, rfl⟩
        case measure => simp [intOf]; omega
      · rw [if_neg g] at RT
        have d : decide (nz zs j ≤ t) = false := decide_eq_false g
        go_wp2
        go_roundw
        case rel => exact ⟨j + 1, by go_num, by rw [RT.out], by omega, rfl⟩
        case measure => simp [intOf]; omega
    · obtain rfl : j = zs.length := by omega
      rw [List.take_length]
      go_wp2
      go_ret
      exact ⟨rfl, Ext.refl _⟩
end Go.Proofs.YtpdnefodbichkaaGreat.Crs
