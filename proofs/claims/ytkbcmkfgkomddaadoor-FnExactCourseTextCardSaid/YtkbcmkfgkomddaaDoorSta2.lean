import Derived.Test.YtkbcmkfgkomddaaDoorSta
namespace Go.Proofs.YtkbcmkfgkomddaaDoor.Crs
open Go.ChangeShapes Go.WideShapes Go.ChangeAt Go.RowKit Go.PlainAid
open Go.Proofs.YtkbcmkfgkomddaaDoor.Num Go.Proofs.YtkbcmkfgkomddaaDoor.Kit Go.Proofs.YtkbcmkfgkomddaaDoor.Pts Go.Proofs.YtkbcmkfgkomddaaDoor.Seg Go.Proofs.YtkbcmkfgkomddaaDoor.Div
set_option linter.unusedVariables false
set_option linter.unusedSimpArgs false
abbrev liB (l : L4) : Bool := sgB l.a l.b l.c l.d
def okB (l k : L4) (ms : List M5) (i : Nat) : Bool := if i = 0 then liB l else if i ≤ ms.length then mkB (mk ms (i - 1)) else liB k
def pvB (l k : L4) (ms : List M5) : Bool := (List.range (ms.length + 2)).all (okB l k ms)
theorem pv_no {l k : L4} {ms : List M5} {i : Nat} (hi : i < ms.length + 2) (h : okB l k ms i = false) : pvB l k ms = false :=
  List.all_eq_false.2 ⟨i, by simpa using hi, by simp [h]⟩
theorem pv_all {l k : L4} {ms : List M5} (h : ∀ i, i < ms.length + 2 → okB l k ms i = true) : pvB l k ms = true :=
  List.all_eq_true.2 fun i hi => h i (by simpa using hi)
theorem pv_yes {l k : L4} {ms : List M5} (h : pvB l k ms = true) : ∀ i, i < ms.length + 2 → okB l k ms i = true :=
  fun i hi => List.all_eq_true.1 h i (by simpa using hi)
theorem pts_at (l k : L4) (ms : List M5) (i : Nat) (hi : i < ms.length + 2) : (ptsV l k ms)[i]? = some (if i = 0 then LI l else if i ≤ ms.length then MI (mk ms (i - 1)) else LI k) := by
  unfold ptsV
  rcases Nat.eq_zero_or_pos i with rfl | h0
  · simp
  · rw [if_neg (by omega)]
    by_cases h : i ≤ ms.length
    · rw [if_pos h, List.getElem?_append_left (by simp; omega)]
      obtain ⟨j, rfl⟩ : ∃ j, i = j + 1 := ⟨i - 1, by omega⟩
      have hj : j < ms.length := by omega
      simp [mk, hj]
    · rw [if_neg h]
      obtain rfl : i = ms.length + 1 := by omega
      rw [List.getElem?_append_right (by simp)]
      simp
def RelPV (wx : World) (l k : L4) (ms : List M5) (i : Value) (wr : World) : Prop :=
  ∃ j : Nat, i = .int .i64 j ∧ j ≤ ms.length + 2 ∧ (∀ x, x < j → okB l k ms x = true) ∧ Ext wx wr
theorem fit_mk {w : World} {a : Option Addr} {ms : List M5} (h : Mks w a ms) (i : Nat) : (mk ms i).n.size ≤ maxLen := by
  by_cases hi : i < ms.length
  · exact h.1.2 i hi
  · have : mk ms i = ⟨⟨#[]⟩, 0, 0, 0, 0⟩ := by unfold mk; rw [List.getD_eq_getElem?_getD, List.getElem?_eq_none (by omega)]; rfl
    rw [this]; exact Nat.zero_le _
theorem isValid_line (l : L4) (w : World) : (method 243 33 (LV l) "loop.example/g00887/impl.isValid").run Tryd.prog w = .ok (86, LV l) w := by kernel_rfl
theorem isValid_mark (m : M5) (w : World) : (method 243 56 (MV m) "loop.example/g00887/impl.isValid").run Tryd.prog w = .ok (97, MV m) w := by kernel_rfl
theorem station_line (l : L4) (w : World) : (method 243 33 (LV l) "loop.example/g00887/impl.station").run Tryd.prog w = .ok (87, LV l) w := by kernel_rfl
theorem station_mark (m : M5) (w : World) : (method 243 56 (MV m) "loop.example/g00887/impl.station").run Tryd.prog w = .ok (98, MV m) w := by kernel_rfl
set_option maxRecDepth 100000 in
set_option maxHeartbeats 2000000 in
theorem validParts_any (l k : L4) (a : Option Addr) (cap : Nat) (ms : List M5) (w : World) (hf : Mks w a ms) (hl : ms.length ≤ 8) :
    Calls Tryd.prog 28 #[CV l k (.slice a ms.length cap)] w fun e w' => e = .returned (.bool (pvB l k ms)) ∧ Ext w w' := by
  have HS := Lib.hid (fit_mk hf)
  have HF := Lib.hid hf
  clear hf
  go_enter Tryd.func28, Tryd.ntmps28
  go_wp2_with fail
  refine (parts_any _ _ _ _ _ _ (HF.out.ext (by repeat (first | exact Ext.refl _ | assumption | apply Ext.alloc | apply Ext.drew | (refine Ext.trans ?_ (by assumption)) | (refine Ext.setNew ?_ (by simp <;> omega) _)))) hl).mono ?_
  rintro e w1 ⟨v, rfl, hO, hx⟩
  rcases row_cases hO with ⟨_, h0⟩ | ⟨g, cp, rfl, hcp, _, hc⟩
  · exact absurd h0 (by omega)
  have HC := Lib.hid hc
  have X1 := Lib.hid (((Ext.refl w).alloc _).trans hx)
  clear hx hO hc
  go_wp2
  go_loopw [8] (fun i wr => RelPV w1 l k ms i wr) (fun i _ => ms.length + 2 - (intOf i).toNat)
  case atStart => exact ⟨0, rfl, Nat.zero_le _, fun x hx => absurd hx (by omega), Ext.refl _⟩
  case round =>
    obtain ⟨j, rfl, hj, hd, hx⟩ := hrel
    have HD := Lib.hid hd
    have HX := Lib.hid hx
    clear hd hx
    by_cases hj1 : j < ms.length + 2
    · have i0 : (0 : Int) ≤ (j : Int) := by omega
      have i1 : (j : Int) < ((ms.length + 2 : Nat) : Int) := by omega
      have i2 : (j : Int) < (ms.length : Int) + 2 := by omega
      have T7 : IntKind.i64.wrap ((j : Int) + 1) = (j : Int) + 1 := IntWalk.i64_in _ (by omega)
      have c0 : wr.cell? ⟨g, j, none⟩ = some (if j = 0 then LI l else if j ≤ ms.length then MI (mk ms (j - 1)) else LI k) := HX.out.cellOf (by rw [HC.out j (by omega), pts_at _ _ _ _ hj1])
      have HB := Lib.hid (show okB l k ms j = if j = 0 then liB l else if j ≤ ms.length then mkB (mk ms (j - 1)) else liB k from rfl)
      rcases (show (j = 0) ∨ (¬ j = 0 ∧ j ≤ ms.length) ∨ (¬ j = 0 ∧ ¬ j ≤ ms.length) by omega) with h0 | ⟨h0, h1⟩ | ⟨h0, h1⟩
      · rw [if_pos h0] at c0 HB
        have hm := isValid_line l
        cases hv : liB l
        · have hv' : sgB l.a l.b l.c l.d = false := hv
          have H := Lib.hid (pv_no hj1 (HB.out.trans hv))
          clear h0 HB
          go_wp2_with (go_at_call 86; refine (lineValid_any _ _ _ _ _).mono ?_; rw [hv']; rintro e w2 ⟨rfl, hy⟩)
          go_ret
          exact ⟨ret_bool H.out, X1.out.trans (HX.out.trans hy)⟩
        · have hv' : sgB l.a l.b l.c l.d = true := hv
          have H := Lib.hid (HB.out.trans hv)
          clear h0 HB
          go_wp2_with (go_at_call 86; refine (lineValid_any _ _ _ _ _).mono ?_; rw [hv']; rintro e w2 ⟨rfl, hy⟩)
          have HY := Lib.hid (HX.out.trans hy)
          clear hy
          go_roundw
          case rel => exact ⟨j + 1, by go_num, by omega, fun x hx => by rcases Nat.lt_or_ge x j with g | g; exact HD.out x g; exact (show x = j by omega) ▸ H.out, HY.out⟩
          case measure => simp [intOf]; omega
      · rw [if_neg h0, if_pos h1] at c0 HB
        have hm := isValid_mark (mk ms (j - 1))
        cases hv : mkB (mk ms (j - 1))
        · have H := Lib.hid (pv_no hj1 (HB.out.trans hv))
          clear HB
          go_wp2_with (go_at_call 97; refine (mark_impl _ _ (HS.out _)).mono ?_; rw [hv]; rintro e w2 ⟨rfl, hy⟩)
          go_ret
          exact ⟨ret_bool H.out, X1.out.trans (HX.out.trans hy)⟩
        · have H := Lib.hid (HB.out.trans hv)
          clear HB
          go_wp2_with (go_at_call 97; refine (mark_impl _ _ (HS.out _)).mono ?_; rw [hv]; rintro e w2 ⟨rfl, hy⟩)
          have HY := Lib.hid (HX.out.trans hy)
          clear hy
          go_roundw
          case rel => exact ⟨j + 1, by go_num, by omega, fun x hx => by rcases Nat.lt_or_ge x j with g | g; exact HD.out x g; exact (show x = j by omega) ▸ H.out, HY.out⟩
          case measure => simp [intOf]; omega
      · rw [if_neg h0, if_neg h1] at c0 HB
        have hm := isValid_line k
        cases hv : liB k
        · have hv' : sgB k.a k.b k.c k.d = false := hv
          have H := Lib.hid (pv_no hj1 (HB.out.trans hv))
          clear HB
          go_wp2_with (go_at_call 86; refine (lineValid_any _ _ _ _ _).mono ?_; rw [hv']; rintro e w2 ⟨rfl, hy⟩)
          go_ret
          exact ⟨ret_bool H.out, X1.out.trans (HX.out.trans hy)⟩
        · have hv' : sgB k.a k.b k.c k.d = true := hv
          have H := Lib.hid (HB.out.trans hv)
          clear HB
          go_wp2_with (go_at_call 86; refine (lineValid_any _ _ _ _ _).mono ?_; rw [hv']; rintro e w2 ⟨rfl, hy⟩)
          have HY := Lib.hid (HX.out.trans hy)
          clear hy
          go_roundw
          case rel => exact ⟨j + 1, by go_num, by omega, fun x hx => by rcases Nat.lt_or_ge x j with g | g; exact HD.out x g; exact (show x = j by omega) ▸ H.out, HY.out⟩
          case measure => simp [intOf]; omega
    · obtain rfl : j = ms.length + 2 := by omega
      have H := Lib.hid (pv_all HD.out)
      go_wp2
      go_ret
      exact ⟨ret_bool H.out, X1.out.trans HX.out⟩
def dnB (ms : List M5) : Bool := (List.range ms.length).all fun i => decide (ixI ms (mk ms i).n = (i : Int))
theorem dn_no {ms : List M5} {i : Nat} (hi : i < ms.length) (h : ¬ ixI ms (mk ms i).n = (i : Int)) : dnB ms = false :=
  List.all_eq_false.2 ⟨i, by simpa using hi, by simp [h]⟩
theorem dn_all {ms : List M5} (h : ∀ i, i < ms.length → ixI ms (mk ms i).n = (i : Int)) : dnB ms = true :=
  List.all_eq_true.2 fun i hi => by simpa using h i (by simpa using hi)
theorem one_on' {w : World} {p : Addr} {v : Value} (h : w.cell? p = some v) : ∀ A, (w.alloc A).cell? p = some v := fun A => ((Ext.refl w).alloc A).cellOf h
def RelDN (wx : World) (ms : List M5) (i : Value) (wr : World) : Prop :=
  ∃ j : Nat, i = .int .i64 j ∧ j ≤ ms.length ∧ (∀ x, x < j → ixI ms (mk ms x).n = (x : Int)) ∧ Ext wx wr
set_option maxRecDepth 100000 in
set_option maxHeartbeats 2000000 in
theorem names_any (l k : L4) (a : Option Addr) (cap : Nat) (ms : List M5) (w : World) (hf : Mks w a ms) (hl : ms.length ≤ 8) :
    Calls Tryd.prog 29 #[CV l k (.slice a ms.length cap)] w fun e w' => e = .returned (.bool (dnB ms)) ∧ Ext w w' := by
  obtain ⟨W0, hW0⟩ : ∃ W0, W0 = w.alloc (.cells (cellsC l k (.slice a ms.length cap)).toArray 36) := ⟨_, rfl⟩
  have HW := Lib.hid (show Ext w W0 from hW0 ▸ (Ext.refl w).alloc _)
  have HF := Lib.hid (hf.ext HW.out)
  have BB := Lib.hid (show Box W0 w.heap.size (cellsC l k (.slice a ms.length cap)) from hW0 ▸ Box.new rfl)
  clear hf
  go_enter Tryd.func29, Tryd.ntmps29
  go_wp2
  rw [← hW0]
  clear hW0
  go_loopw [8] (fun i wr => RelDN W0 ms i wr) (fun i _ => ms.length - (intOf i).toNat)
  case atStart => exact ⟨0, rfl, Nat.zero_le _, fun x hx => absurd hx (by omega), Ext.refl _⟩
  case round =>
    obtain ⟨j, rfl, hj, hd, hx⟩ := hrel
    have HD := Lib.hid hd
    have HX := Lib.hid hx
    clear hd hx
    obtain ⟨⟨p0, p1, p2, p3, p4, p5, p6, p7, p8⟩, _⟩ := Box.nine (BB.out.ext HX.out)
    by_cases hj1 : j < ms.length
    · obtain ⟨b, off, rfl, hb⟩ := HF.out.row (by omega)
      obtain ⟨c0, c1, c2, c3, c4⟩ := (hb j hj1).ext HX.out
      have i0 : (0 : Int) ≤ (j : Int) := by omega
      have i1 : (j : Int) < (ms.length : Int) := by omega
      have T7 : IntKind.i64.wrap ((j : Int) + 1) = (j : Int) + 1 := IntWalk.i64_in _ (by omega)
      clear hb
      replace p0 := one_on' p0
      replace p1 := one_on' p1
      replace p2 := one_on' p2
      replace p3 := one_on' p3
      replace p4 := one_on' p4
      replace p5 := one_on' p5
      replace p6 := one_on' p6
      replace p7 := one_on' p7
      replace p8 := one_on' p8
      by_cases h : ixI ms (mk ms j).n = (j : Int)
      · have H := Lib.hid h
        go_wp2_with (go_at_call 44; refine (markIndex_any _ _ _ _ _ _ _ (HF.out.ext (HX.out.trans (by repeat (first | exact Ext.refl _ | assumption | apply Ext.alloc | apply Ext.drew | (refine Ext.trans ?_ (by assumption)) | (refine Ext.setNew ?_ (by simp <;> omega) _)))))).mono ?_; rw [h]; rintro e w2 ⟨rfl, hy⟩)
        have HY := Lib.hid (HX.out.trans (((Ext.refl wr).alloc _).trans hy))
        clear hy
        go_roundw
        case rel => exact ⟨j + 1, by go_num, by omega, fun x hx => by rcases Nat.lt_or_ge x j with g | g; exact HD.out x g; exact (show x = j by omega) ▸ H.out, HY.out⟩
        case measure => simp [intOf]; omega
      · have H := Lib.hid (dn_no hj1 h)
        have hq : (ixI ms (mk ms j).n == (j : Int)) = false := by simpa using h
        go_wp2_with (go_at_call 44; refine (markIndex_any _ _ _ _ _ _ _ (HF.out.ext (HX.out.trans (by repeat (first | exact Ext.refl _ | assumption | apply Ext.alloc | apply Ext.drew | (refine Ext.trans ?_ (by assumption)) | (refine Ext.setNew ?_ (by simp <;> omega) _)))))).mono ?_; rintro e w2 ⟨rfl, hy⟩)
        go_ret
        exact ⟨ret_bool H.out, HW.out.trans (HX.out.trans (((Ext.refl wr).alloc _).trans hy))⟩
    · obtain rfl : j = ms.length := by omega
      have H := Lib.hid (dn_all HD.out)
      go_wp2
      go_ret
      exact ⟨ret_bool H.out, HW.out.trans HX.out⟩
end Go.Proofs.YtkbcmkfgkomddaaDoor.Crs
