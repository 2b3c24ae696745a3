import Derived.Test.YtkbcmkfgkomddaaDoorSta5
namespace Go.Proofs.YtkbcmkfgkomddaaDoor.Crs
open Go.ChangeShapes Go.WideShapes Go.ChangeAt Go.RowKit Go.PlainAid
open Go.Proofs.YtkbcmkfgkomddaaDoor.Num Go.Proofs.YtkbcmkfgkomddaaDoor.Kit Go.Proofs.YtkbcmkfgkomddaaDoor.Pts Go.Proofs.YtkbcmkfgkomddaaDoor.Seg Go.Proofs.YtkbcmkfgkomddaaDoor.Div
set_option linter.unusedVariables false
set_option linter.unusedSimpArgs false
def loB (l k : L4) (ms : List M5) (i : Nat) : Bool := sgB (stP l k ms i).x (stP l k ms i).y (stP l k ms (i + 1)).x (stP l k ms (i + 1)).y
def lgB (l k : L4) (ms : List M5) : Bool := (List.range (ms.length + 1)).all (loB l k ms)
theorem lg_no {l k : L4} {ms : List M5} {i : Nat} (hi : i < ms.length + 1) (h : loB l k ms i = false) : lgB l k ms = false :=
  List.all_eq_false.2 ⟨i, by simpa using hi, by simp [h]⟩
theorem lg_all {l k : L4} {ms : List M5} (h : ∀ i, i < ms.length + 1 → loB l k ms i = true) : lgB l k ms = true :=
  List.all_eq_true.2 fun i hi => h i (by simpa using hi)
def RelVL (wx : World) (l k : L4) (ms : List M5) (i : Value) (wr : World) : Prop :=
  ∃ j : Nat, i = .int .i64 j ∧ j ≤ ms.length + 1 ∧ (∀ x, x < j → loB l k ms x = true) ∧ Ext wx wr
set_option maxRecDepth 100000 in
set_option maxHeartbeats 2000000 in
theorem validLegs_any (l k : L4) (a : Option Addr) (cap : Nat) (ms : List M5) (w : World) (hf : Mks w a ms) (hl : ms.length ≤ 8) (hv : liB l = true) (hv2 : liB k = true) :
    Calls Tryd.prog 30 #[CV l k (.slice a ms.length cap)] w fun e w' => e = .returned (.bool (lgB l k ms)) ∧ Ext w w' := by
  have HF := Lib.hid hf
  clear hf
  go_enter Tryd.func30, Tryd.ntmps30
  go_wp2_with fail
  refine (legs_any _ _ _ _ _ _ (HF.out.ext (by repeat (first | exact Ext.refl _ | assumption | apply Ext.alloc | apply Ext.drew | (refine Ext.trans ?_ (by assumption)) | (refine Ext.setNew ?_ (by simp <;> omega) _)))) hl hv hv2).mono ?_
  rintro e w1 ⟨v, rfl, hO, hx⟩
  rcases row_cases hO with ⟨_, h0⟩ | ⟨g, cp, rfl, hcp, _, hc⟩
  · exact absurd h0 (by omega)
  have HC := Lib.hid hc
  have X1 := Lib.hid (((Ext.refl w).alloc _).trans hx)
  clear hx hO hc
  go_wp2
  go_loopw [8] (fun i wr => RelVL w1 l k ms i wr) (fun i _ => ms.length + 1 - (intOf i).toNat)
  case atStart => exact ⟨0, rfl, Nat.zero_le _, fun x hx => absurd hx (by omega), Ext.refl _⟩
  case round =>
    obtain ⟨j, rfl, hj, hd, hx⟩ := hrel
    have HD := Lib.hid hd
    have HX := Lib.hid hx
    clear hd hx
    by_cases hj1 : j < ms.length + 1
    · have i0 : (0 : Int) ≤ (j : Int) := by omega
      have i1 : (j : Int) < ((ms.length + 1 : Nat) : Int) := by omega
      have i2 : (j : Int) < (ms.length : Int) + 1 := by omega
      have T7 : IntKind.i64.wrap ((j : Int) + 1) = (j : Int) + 1 := IntWalk.i64_in _ (by omega)
      obtain ⟨q0, q1, q2, q3⟩ := lgC_get l k ms (ms.length + 1) j hj1
      have c0 : wr.cell? ⟨g, j * 4, none⟩ = some (.int .i64 (stP l k ms j).x) := HX.out.cellOf (by rw [HC.out _ (by omega)]; exact q0)
      have c1 : wr.cell? ⟨g, j * 4 + 1, none⟩ = some (.int .i64 (stP l k ms j).y) := HX.out.cellOf (by rw [HC.out _ (by omega)]; exact q1)
      have c2 : wr.cell? ⟨g, j * 4 + 2, none⟩ = some (.int .i64 (stP l k ms (j + 1)).x) := HX.out.cellOf (by rw [HC.out _ (by omega)]; exact q2)
      have c3 : wr.cell? ⟨g, j * 4 + 3, none⟩ = some (.int .i64 (stP l k ms (j + 1)).y) := HX.out.cellOf (by rw [HC.out _ (by omega)]; exact q3)
      clear q0 q1 q2 q3
      have HS := Lib.hid (fun w => sgValid_any (stP l k ms j).x (stP l k ms j).y (stP l k ms (j + 1)).x (stP l k ms (j + 1)).y w)
      cases hq : loB l k ms j
      · have H := Lib.hid (lg_no hj1 hq)
        rw [show sgB (stP l k ms j).x (stP l k ms j).y (stP l k ms (j + 1)).x (stP l k ms (j + 1)).y = false from hq] at HS
        clear hq
        go_wp2_with (go_at_call 46; refine (HS.out _).mono ?_; rintro e w2 ⟨rfl, hy⟩)
        go_ret
        exact ⟨ret_bool H.out, X1.out.trans (HX.out.trans (((Ext.refl wr).alloc _).trans hy))⟩
      · have H := Lib.hid hq
        rw [show sgB (stP l k ms j).x (stP l k ms j).y (stP l k ms (j + 1)).x (stP l k ms (j + 1)).y = true from hq] at HS
        clear hq
        go_wp2_with (go_at_call 46; refine (HS.out _).mono ?_; rintro e w2 ⟨rfl, hy⟩)
        have HY := Lib.hid (HX.out.trans (((Ext.refl wr).alloc _).trans hy))
        clear hy
        go_roundw
        case rel => exact ⟨j + 1, by go_num, by omega, fun x hx => by rcases Nat.lt_or_ge x j with g | g; exact HD.out x g; exact (show x = j by omega) ▸ H.out, HY.out⟩
        case measure => simp [intOf]; omega
    · obtain rfl : j = ms.length + 1 := by omega
      have H := Lib.hid (lg_all HD.out)
      go_wp2
      go_ret
      exact ⟨ret_bool H.out, X1.out.trans HX.out⟩
def crB (l k : L4) (ms : List M5) : Bool := decide (1 ≤ ms.length) && (decide (ms.length ≤ 8) && (pvB l k ms && (dnB ms && lgB l k ms)))
theorem pv_lines {l k : L4} {ms : List M5} (h : pvB l k ms = true) : liB l = true ∧ liB k = true := by
  have h0 := pv_yes h 0 (by omega)
  have h1 := pv_yes h (ms.length + 1) (by omega)
  unfold okB at h0 h1
  rw [if_pos rfl] at h0
  rw [if_neg (by omega), if_neg (by omega)] at h1
  exact ⟨h0, h1⟩
set_option maxRecDepth 100000 in
set_option maxHeartbeats 4000000 in
theorem courseValid_any (l k : L4) (a : Option Addr) (cap : Nat) (ms : List M5) (w : World) (hf : Mks w a ms) :
    Calls Tryd.prog 14 #[CV l k (.slice a ms.length cap)] w fun e w' => e = .returned (.bool (crB l k ms)) ∧ Ext w w' := by
  have hm := hf.1.1
  unfold maxLen at hm
  have HF := Lib.hid hf
  clear hf
  by_cases h1 : ms.length < 1
  · have H := Lib.hid (show crB l k ms = false by unfold crB; rw [decide_eq_false (p := 1 ≤ ms.length) (by omega)]; rfl)
    have e1 : ¬ (1 : Int) ≤ (ms.length : Int) := by omega
    have e2 : (ms.length : Int) < 1 := by omega
    go_enter Tryd.func14, Tryd.ntmps14
    go_wp2
    go_ret
    exact ⟨ret_bool H.out, (by repeat (first | exact Ext.refl _ | assumption | apply Ext.alloc | apply Ext.drew | (refine Ext.trans ?_ (by assumption)) | (refine Ext.setNew ?_ (by simp <;> omega) _)))⟩
  have e1 : (1 : Int) ≤ (ms.length : Int) := by omega
  by_cases h8 : 8 < ms.length
  · have H := Lib.hid (show crB l k ms = false by unfold crB; rw [decide_eq_false (p := ms.length ≤ 8) (by omega)]; simp)
    have e2 : ¬ (ms.length : Int) ≤ 8 := by omega
    have e3 : (8 : Int) < (ms.length : Int) := by omega
    go_enter Tryd.func14, Tryd.ntmps14
    go_wp2
    go_ret
    exact ⟨ret_bool H.out, (by repeat (first | exact Ext.refl _ | assumption | apply Ext.alloc | apply Ext.drew | (refine Ext.trans ?_ (by assumption)) | (refine Ext.setNew ?_ (by simp <;> omega) _)))⟩
  have e2 : (ms.length : Int) ≤ 8 := by omega
  have HE := Lib.hid (show crB l k ms = (pvB l k ms && (dnB ms && lgB l k ms)) by unfold crB; rw [decide_eq_true (p := 1 ≤ ms.length) (by omega), decide_eq_true (p := ms.length ≤ 8) (by omega)]; rfl)
  have hl8 : ms.length ≤ 8 := by omega
  obtain ⟨W0, hW0⟩ : ∃ W0, W0 = w.alloc (.cells (cellsC l k (.slice a ms.length cap)).toArray 36) := ⟨_, rfl⟩
  have HW := Lib.hid (show Ext w W0 from hW0 ▸ (Ext.refl w).alloc _)
  have BB := Lib.hid (show Box W0 w.heap.size (cellsC l k (.slice a ms.length cap)) from hW0 ▸ Box.new rfl)
  replace HF := Lib.hid (HF.out.ext HW.out)
  obtain ⟨⟨p0, p1, p2, p3, p4, p5, p6, p7, p8⟩, _⟩ := Box.nine BB.out
  cases hp : pvB l k ms
  · rw [hp] at HE
    go_enter Tryd.func14, Tryd.ntmps14
    go_wp2_with fail
    rw [← hW0]
    clear hW0
    refine (validParts_any _ _ _ _ _ _ HF.out hl8).mono ?_
    rw [hp]
    rintro e w1 ⟨rfl, hx⟩
    go_wp2
    go_ret
    exact ⟨ret_bool HE.out, HW.out.trans hx⟩
  obtain ⟨hv, hv2⟩ := pv_lines hp
  cases hd : dnB ms
  · rw [hp, hd] at HE
    go_enter Tryd.func14, Tryd.ntmps14
    go_wp2_with fail
    rw [← hW0]
    clear hW0
    refine (validParts_any _ _ _ _ _ _ HF.out hl8).mono ?_
    rw [hp]
    rintro e w1 ⟨rfl, hx⟩
    obtain ⟨⟨q0, q1, q2, q3, q4, q5, q6, q7, q8⟩, _⟩ := Box.nine (BB.out.ext hx)
    go_wp2_with fail
    refine (names_any _ _ _ _ _ _ (HF.out.ext hx) hl8).mono ?_
    rw [hd]
    rintro e w2 ⟨rfl, hy⟩
    go_wp2
    go_ret
    exact ⟨ret_bool HE.out, HW.out.trans (hx.trans hy)⟩
  · cases hg : lgB l k ms
    all_goals
      rw [hp, hd, hg] at HE
      go_enter Tryd.func14, Tryd.ntmps14
      go_wp2_with fail
      rw [← hW0]
      clear hW0
      refine (validParts_any _ _ _ _ _ _ HF.out hl8).mono ?_
      rw [hp]
      rintro e w1 ⟨rfl, hx⟩
      obtain ⟨⟨q0, q1, q2, q3, q4, q5, q6, q7, q8⟩, _⟩ := Box.nine (BB.out.ext hx)
      go_wp2_with fail
      refine (names_any _ _ _ _ _ _ (HF.out.ext hx) hl8).mono ?_
      rw [hd]
      rintro e w2 ⟨rfl, hy⟩
      obtain ⟨⟨r0, r1, r2, r3, r4, r5, r6, r7, r8⟩, _⟩ := Box.nine (BB.out.ext (hx.trans hy))
      clear q0 q1 q2 q3 q4 q5 q6 q7 q8
      go_wp2_with fail
      refine (validLegs_any _ _ _ _ _ _ (HF.out.ext (hx.trans hy)) hl8 hv hv2).mono ?_
      rw [hg]
      rintro e w3 ⟨rfl, hz⟩
      go_wp2
      go_ret
      exact ⟨ret_bool HE.out, HW.out.trans ((hx.trans hy).trans hz)⟩
end Go.Proofs.YtkbcmkfgkomddaaDoor.Crs
