import Derived.Test.YtpdnefodbichkaaSta
namespace Go.Proofs.Ytpdnefodbichkaa.Crs
open Go.ChangeShapes Go.WideShapes Go.ChangeAt Go.RowKit Go.PlainAid
open Go.Proofs.Ytpdnefodbichkaa.Num Go.Proofs.Ytpdnefodbichkaa.Kit Go.Proofs.Ytpdnefodbichkaa.Pts Go.Proofs.Ytpdnefodbichkaa.Seg Go.Proofs.Ytpdnefodbichkaa.Div
set_option linter.unusedVariables false
set_option linter.unusedSimpArgs false
abbrev liB (l : L4) : Bool := sgB l.a l.b l.c l.d
def okB (l k : L4) (ms : List M5) (i : Nat) : Bool := if i = 0 then liB l else if i ≤ ms.length then mkB (mk ms (i - 1)) else liB k
def pvB (l k : L4) (ms : List M5) : Bool := (List.range (ms.length + 2)).all (okB l k ms)
theorem pv_no {l k : L4} {ms : List M5} {i : Nat} (hi : i < ms.length + 2) (h : okB l k ms i = false) : pvB l k ms = false :=
  List.all_eq_false.2 ⟨i, by simpa using hi, by simp [h]⟩
theorem pv_all {l k : L4} {ms : List M5} (h : ∀ i, i < ms.length + 2 → okB l k ms i = true) : pvB l k ms = true :=
  List.all_eq_true.2 fun i hi => h i (by simpa using hi)
theorem pv_yes {l k : L4} {ms : List M5} (h : pvB l k ms = true) : ∀ i, i < ms.length + 2 → okB l k ms i = true :=
  fun i hi => List.all_eq_true.1 h i (by simpa using hi)
theorem pts_at (l k : L4) (ms : List M5) (i : Nat) (hi : i < ms.length + 2) : (ptsV l k ms)[i]? = some (if i = 0 then LI l else if i ≤ ms.length then MI (mk ms (i - 1)) else LI k) := by
  unfold ptsV
  rcases Nat.eq_zero_or_pos i with rfl | h0
  · simp
  · rw [if_neg (by omega)]
    by_cases h : i ≤ ms.length
    · rw [if_pos h, List.getElem?_append_left (by simp; omega)]
      obtain ⟨j, rfl⟩ : ∃ j, i = j + 1 := ⟨i - 1, by omega⟩
      have hj : j < ms.length := by omega
      simp [mk, hj]
    · rw [if_neg h]
      obtain rfl : i = ms.length + 1 := by omega
      rw [List.getElem?_append_right (by simp)]
      simp
def RelPV (wx : World) (l k : L4) (ms : List M5) (i : Value) (wr : World) : Prop :=
  ∃ j : Nat, i = .int .i64 j ∧ j ≤ ms.length + 2 ∧ (∀ x, x < j → okB l k ms x = true) ∧ Ext wx wr
theorem fit_mk {w : World} {a : Option Addr} {ms : List M5} (h : Mks w a ms) (i : Nat) : (mk ms i).n.size ≤ maxLen := by
  by_cases hi : i < ms.length
  · exact h.1.2 i hi
  · have : mk ms i = ⟨⟨#[]⟩, 0, 0, 0, 0⟩ := by unfold mk; rw [List.getD_eq_getElem?_getD, List.getElem?_eq_none (by omega)]; rfl
    rw [this]; exact Nat.zero_le _
theorem isValid_line (l : L4) (w : World) : (method 261 40 (LV l) "loop.example/g00887/impl.isValid").run Try.prog w = .ok (40, LV l) w := by kernel_rfl
theorem isValid_mark (m : M5) (w : World) : (method 261 49 (MV m) "loop.example/g00887/impl.isValid").run Try.prog w = .ok (124, MV m) w := by kernel_rfl
theorem station_line (l : L4) (w : World) : (method 261 40 (LV l) "loop.example/g00887/impl.station").run Try.prog w = .ok (117, LV l) w := by kernel_rfl
theorem station_mark (m : M5) (w : World) : (method 261 49 (MV m) "loop.example/g00887/impl.station").run Try.prog w = .ok (125, MV m) w := by kernel_rfl
set_option maxRecDepth 100000 in
set_option maxHeartbeats 2000000 in
theorem validParts_any (l k : L4) (a : Option Addr) (cap : Nat) (ms : List M5) (w : World) (hf : Mks w a ms) (hl : ms.length ≤ 8) :
    Calls Try.prog 66 #[CV l k (.slice a ms.length cap)] w fun e w' => e = .returned (.bool (pvB l k ms)) ∧ Ext w w' := by
  have HS := Lib.hid (fit_mk hf)
  have HF := Lib.hid hf
  clear hf
  go_enter Try.func66, Try.ntmps66
  go_wp2_with fail
  refine (parts_any _ _ _ _ _ _ (HF.out.ext (by repeat (first | exact Ext.refl _ | assumption | apply Ext.alloc | apply Ext.drew | (refine Ext.trans ?_ (by assumption)) | (refine Ext.setNew ?_ (by simp <;> omega) _)))) hl).mono ?_
  rintro e w1 ⟨v, rfl, hO, hx⟩
  rcases row_cases hO with ⟨_, h0⟩ | ⟨g, cp, rfl, hcp, _, hc⟩
  · exact absurd h0 (by omega)
  have HC := Lib.hid hc
  have X1 := Lib.hid (((Ext.refl w).alloc _).trans hx)
  clear hx hO hc
  go_wp2
  go_loopw [8] (fun i wr => RelPV w1 l k ms i wr) (fun i _ => ms.length + 2 - (intOf i).toNat)
  case atStart => exact ⟨0, rfl, Nat.zero_le _, fun x hx => absurd hx (by omega), Ext.refl _⟩
  case round =>
    obtain ⟨j, rfl, hj, hd, hx⟩ := hrel
    have HD := Lib.hid hd
    have HX := Lib.hid hx
    clear hd hx
    by_cases hj1 : j < ms.length + 2
    · have i0 : (0 : Int) ≤ (j : Int) := by omega
      have i1 : (j : Int) < ((ms.length + 2 : Nat) : Int) := by omega
      have i2 : (j : Int) < (ms.length : Int) + 2 := by omega
      have T7 : IntKind.i64.wrap ((j : Int) + 1) = (j : Int) + 1 := IntWalk.i64_in _ (by omega)
      have c0 : wr.cell? ⟨g, j, none⟩ = some (if j = 0 then LI l else if j ≤ ms.length then MI (mk ms (j - 1)) else LI k) := HX.out.cellOf (by rw [HC.out j (by omega), pts_at _ _ _ _ hj1])
      have HB := Lib.hid (show okB l k ms j = if j = 0 then liB l else if j ≤ ms.length then mkB (mk ms (j - 1)) else liB k from rfl)
      rcases (show (j = 0) ∨ (¬ j = 0 ∧ j ≤ ms.length) ∨ (¬ j = 0 ∧ ¬ j ≤ ms.length) by omega) with h0 | ⟨h0, h1⟩ | ⟨h0, h1⟩
      · rw [if_pos h0] at c0 HB
        have hm := isValid_line l
        cases hv : liB l
        · have hv' : sgB l.a l.b l.c l.d = false := hv
          have H := Lib.hid (pv_no hj1 (HB.out.trans hv))
          clear h0 HB
          go_wp2_with (go_at_call 40; refine (lineValid_any _ _ _ _ _).mono ?_; rw [hv']; rintro e w2 ⟨rfl, hy⟩)
          go_ret
          exact ⟨ret_bool H.out, X1.out.trans (HX.out.trans hy)⟩
        · have hv' : sgB l.a l.b l.c l.d = true := hv
          have H := Lib.hid (HB.out.trans hv)
          clear h0 HB
          go_wp2_with (go_at_call 40; refine (lineValid_any _ _ _ _ _).mono ?_; rw [hv']; rintro e w2 ⟨rfl, hy⟩)
          have HY := Lib.hid (HX.out.trans hy)
          clear hy
          go_roundw
          case rel => exact ⟨j + 1, by go_num, by omega, fun x hx => by rcases Nat.lt_or_ge x j with g | g; exact HD.out x g; exact (show x = j by omega) ▸ H.out, HY.out⟩
          case measure => simp [intOf]; omega
      · rw [if_neg h0, if_pos h1] at c0 HB
        have hm := isValid_mark (mk ms (j - 1))
        cases hv : mkB (mk ms (j - 1))
        · have H := Lib.hid (pv_no hj1 (HB.out.trans hv))
          clear HB
          go_wp2_with (go_at_call 124; refine (mark_impl _ _ (HS.out _)).mono ?_; rw [hv]; rintro e w2 ⟨rfl, hy⟩)
          go_ret
          exact ⟨ret_bool H.out, X1.out.trans (HX.out.trans hy)⟩
        · have H := Lib.hid (HB.out.trans hv)
          clear HB
          go_wp2_with (go_at_call 124; refine (mark_impl _ _ (HS.out _)).mono ?_; rw [hv]; rintro e w2 ⟨rfl, hy⟩)
          have HY := Lib.hid (HX.out.trans hy)
          clear hy
          go_roundw
          case rel => exact ⟨j + 1, by go_num, by omega, fun x hx => by rcases Nat.lt_or_ge x j with g | g; exact HD.out x g; exact (show x = j by omega) ▸ H.out, HY.out⟩
          case measure => simp [intOf]; omega
      · rw [if_neg h0, if_neg h1] at c0 HB
        have hm := isValid_line k
        cases hv : liB k
        · have hv' : sgB k.a k.b k.c k.d = false := hv
          have H := Lib.hid (pv_no hj1 (HB.out.trans hv))
          clear HB
          go_wp2_with (go_at_call 40; refine (lineValid_any _ _ _ _ _).mono ?_; rw [hv']; rintro e w2 ⟨rfl, hy⟩)
          go_ret
          exact ⟨ret_bool H.out, X1.out.trans (HX.out.trans hy)⟩
        · have hv' : sgB k.a k.b k.c k.d = true := hv
          have H := Lib.hid (HB.out.trans hv)
          clear HB
          go_wp2_with (go_at_call 40; refine (lineValid_any _ _ _ _ _).mono ?_; rw [hv']; rintro e w2 ⟨rfl, hy⟩)
          have HY := Lib.hid (HX.out.trans hy)
          clear hy
          go_roundw
          case rel => exact ⟨j + 1, by go_num, by omega, fun x hx => by rcases Nat.lt_or_ge x j with g | g; exact HD.out x g; exact (show x = j by omega) ▸ H.out, HY.out⟩
          case measure => simp [intOf]; omega
    · obtain rfl : j = ms.length + 2 := by omega
      have H := Lib.hid (pv_all HD.out)
      go_wp2
      go_ret
      exact ⟨ret_bool H.out, X1.out.trans HX.out⟩
def dnB (ms : List M5) : Bool := (List.range ms.length).all fun i => decide (ixI ms (mk ms i).n = (i : Int))
theorem dn_no {ms : List M5} {i : Nat} (hi : i < ms.length) (h : ¬ ixI ms (mk ms i).n = (i : Int)) : dnB ms = false :=
  List.all_eq_false.2 ⟨i, by simpa using hi, by simp [h]⟩
theorem dn_all {ms : List M5} (h : ∀ i, i < ms.length → ixI ms (mk ms i).n = (i : Int)) : dnB ms = true :=
  List.all_eq_true.2 fun i hi => by simpa using h i (by simpa using hi)
theorem one_on' {w : World} {p : Addr} {v : Value} (h : w.cell? p = some v) : ∀ A, (w.alloc A).cell? p = some v := fun A => ((Ext.refl w).alloc A).cellOf h
def RelDN (wx : World) (ms : List M5) (i : Value) (wr : World) : Prop :=
  ∃ j : Nat, i = .int .i64 j ∧ j ≤ ms.length ∧ (∀ x, x < j → ixI ms (mk ms x).n = (x : Int)) ∧ Ext wx wr
set_option maxRecDepth 100000 in
set_option maxHeartbeats 2000000 in
theorem names_any (l k : L4) (a : Option Addr) (cap : Nat) (ms : List M5) (w : World) (hf : Mks w a ms) (hl : ms.length ≤ 8) :
    Calls Try.prog 67 #[CV l k (.slice a ms.length cap)] w fun e w' => e = .returned (.bool (dnB ms)) ∧ Ext w w' := by
  obtain ⟨W0, hW0⟩ : ∃ W0, W0 = w.alloc (.cells (cellsC l k (.slice a ms.length cap)).toArray 43) := ⟨_, rfl⟩
  have HW := Lib.hid (show Ext w W0 from hW0 ▸ (Ext.refl w).alloc _)
  have HF := Lib.hid (hf.ext HW.out)
  have BB := Lib.hid (show Box W0 w.heap.size (cellsC l k (.slice a ms.length cap)) from hW0 ▸ Box.new rfl)
  clear hf
  go_enter Try.func67, Try.ntmps67
  go_wp2
  rw [← hW0]
  clear hW0
  go_loopw [8] (fun i wr => RelDN W0 ms i wr) (fun i _ => ms.length - (intOf i).toNat)
  case atStart => exact ⟨0, rfl, Nat.zero_le _, fun x hx => absurd hx (by omega), Ext.refl _⟩
  case round =>
    obtain ⟨j, rfl, hj, hd, hx⟩ := hrel
    have HD := Lib.hid hd
    have HX := Lib.hid hx
    clear hd hx
    obtain ⟨⟨p0, p1, p2, p3, p4, p5, p6, p7, p8⟩, _⟩ := Box.nine (BB.out.ext HX.out)
    by_cases hj1 : j < ms.length
    · obtain ⟨b, off, rfl, hb⟩ := HF.out.row (by omega)
      obtain ⟨c0, c1, c2, c3, c4⟩ := (hb j hj1).ext HX.out
      have i0 : (0 : Int) ≤ (j : Int) := by omega
      have i1 : (j : Int) < (ms.length : Int) := by omega
      have T7 : IntKind.i64.wrap ((j : Int) + 1) = (j : Int) + 1 := IntWalk.i64_in _ (by omega)
      clear hb
      replace p0 := one_on' p0
      replace p1 := one_on' p1
      replace p2 := one_on' p2
      replace p3 := one_on' p3
      replace p4 := one_on' p4
      replace p5 := one_on' p5
      replace p6 := one_on' p6
      replace p7 := one_on' p7
      replace p8 := one_on' p8
      by_cases h : ixI ms (mk ms j).n = (j : Int)
      · have H := Lib.hid h
        go_wp2_with (go_at_call 88; refine (markIndex_any _ _ _ _ _ _ _ (HF.out.ext (HX.out.trans (by repeat (first | exact Ext.refl _ | assumption | apply Ext.alloc | apply Ext.drew | (refine Ext.trans ?_ (by assumption)) | (refine Ext.setNew ?_ (by simp <;> omega) _)))))).mono ?_; rw [h]; rintro e w2 ⟨rfl, hy⟩)
        have HY := Lib.hid (HX.out.trans (((Ext.refl wr).alloc _).trans hy))
        clear hy
        go_roundw
        case rel => exact ⟨j + 1, by go_num, by omega, fun x hx => by rcases Nat.lt_or_ge x j with g | g; exact HD.out x g; exact (show x = j by omega) ▸ H.out, HY.out⟩
        case measure => simp [intOf]; omega
      · have H := Lib.hid (dn_no hj1 h)
        have hq : (ixI ms (mk ms j).n == (j : Int)) = false := by simpa using h
        go_wp2_with (go_at_call 88; refine (markIndex_any _ _ _ _ _ _ _ (HF.out.ext (HX.out.trans (by repeat (first | exact Ext.refl _ | assumption | apply Ext.alloc | apply Ext.drew | (refine Ext.trans ?_ (by assumption)) | (refine Ext.setNew ?_ (by simp <;> omega) _)))))).mono ?_; rintro e w2 ⟨rfl, hy⟩)
        go_ret
        exact ⟨ret_bool H.out, HW.out.trans (HX.out.trans (((Ext.refl wr).alloc _).trans hy))⟩
    · obtain rfl : j = ms.length := by omega
      have H := Lib.hid (dn_all HD.out)
      go_wp2
      go_ret
      exact ⟨ret_bool H.out, HW.out.trans HX.out⟩
end Go.Proofs.Ytpdnefodbichkaa.Crs
namespace Go.Proofs.Ytpdnefodbichkaa.Crs
open Go.ChangeShapes Go.WideShapes Go.ChangeAt Go.RowKit Go.PlainAid
open Go.Proofs.Ytpdnefodbichkaa.Num Go.Proofs.Ytpdnefodbichkaa.Kit Go.Proofs.Ytpdnefodbichkaa.Pts Go.Proofs.Ytpdnefodbichkaa.Seg Go.Proofs.Ytpdnefodbichkaa.Div
set_option linter.unusedVariables false
set_option linter.unusedSimpArgs false
structure P2 where
  x : Int
  y : Int
def midP (l : L4) : P2 := ⟨md l.a l.c, md l.b l.d⟩
def stL (l k : L4) (ms : List M5) : List P2 := (midP l :: ms.map fun m => ⟨m.x, m.y⟩) ++ [midP k]
def cellsP (ps : List P2) : List Value := ps.flatMap fun p => [.int .i64 p.x, .int .i64 p.y]
def stP (l k : L4) (ms : List M5) (i : Nat) : P2 := if i = 0 then midP l else if i ≤ ms.length then ⟨(mk ms (i - 1)).x, (mk ms (i - 1)).y⟩ else midP k
theorem stL_len (l k : L4) (ms : List M5) : (stL l k ms).length = ms.length + 2 := by simp [stL]
theorem stL_at (l k : L4) (ms : List M5) (i : Nat) (hi : i < ms.length + 2) : (stL l k ms)[i]? = some (stP l k ms i) := by
  unfold stL stP
  rcases Nat.eq_zero_or_pos i with rfl | h0
  · simp
  · rw [if_neg (by omega)]
    by_cases h : i ≤ ms.length
    · rw [if_pos h, List.getElem?_append_left (by simp; omega)]
      obtain ⟨j, rfl⟩ : ∃ j, i = j + 1 := ⟨i - 1, by omega⟩
      have hj : j < ms.length := by omega
      simp [mk, hj]
    · rw [if_neg h]
      obtain rfl : i = ms.length + 1 := by omega
      rw [List.getElem?_append_right (by simp)]
      simp
theorem cellsP_app (ps : List P2) (p : P2) : cellsP ps ++ [.int .i64 p.x, .int .i64 p.y] = cellsP (ps ++ [p]) := by simp [cellsP]
theorem cellsP_get : ∀ (ps : List P2) (i : Nat) (p : P2), ps[i]? = some p → (cellsP ps)[i * 2]? = some (.int .i64 p.x) ∧ (cellsP ps)[i * 2 + 1]? = some (.int .i64 p.y)
  | [], i, p, h => by simp at h
  | q :: ps, 0, p, h => by simp at h; subst h; simp [cellsP]
  | q :: ps, i + 1, p, h => by
    have := cellsP_get ps i p (by simpa using h)
    have e : cellsP (q :: ps) = .int .i64 q.x :: .int .i64 q.y :: cellsP ps := by simp [cellsP]
    rw [e, show (i + 1) * 2 = i * 2 + 2 by omega]
    simpa using this
theorem take_st (l k : L4) (ms : List M5) (i : Nat) (hi : i < ms.length + 2) : cellsP ((stL l k ms).take i) ++ [.int .i64 (stP l k ms i).x, .int .i64 (stP l k ms i).y] = cellsP ((stL l k ms).take (i + 1)) := by
  have h := stL_at l k ms i hi
  obtain ⟨hlt, e⟩ := List.getElem?_eq_some_iff.1 h
  rw [List.take_succ_eq_append_getElem hlt, ← cellsP_app, e]
theorem pointInfo : (Try.prog.info? 25).map (fun i => (i.zero, i.size, i.bytes)) = some (some (Pt 0 0), 2, 16) := by kernel_rfl
theorem lit2_cells {w : World} {x y : Value} {t : TypeId} : ∀ (j : Nat) (u : Value), ([x, y] : List Value)[j]? = some u → (w.alloc (.cells #[x, y] t)).cell? ((⟨w.heap.size, 0, none⟩ : Addr).add j) = some u := by
  intro j u hu
  rw [show (⟨w.heap.size, 0, none⟩ : Addr).add j = ⟨w.heap.size, j, none⟩ by simp [Addr.add]; omega]
  exact boxed j (by simpa using hu) rfl
theorem ones2 (x y : Int) : ∀ u ∈ ([.int .i64 x, .int .i64 y] : List Value), u.oneCell' = true := by
  intro u hu
  simp at hu
  rcases hu with rfl | rfl <;> rfl
def RelST (wx : World) (b : Nat) (l k : L4) (ms : List M5) (o i : Value) (wr : World) : Prop :=
  ∃ j : Nat, i = .int .i64 j ∧ j ≤ ms.length + 2 ∧ wr.ownsRow b 25 2 o j (cellsP ((stL l k ms).take j)) ∧ Ext wx wr
set_option maxRecDepth 100000 in
set_option maxHeartbeats 4000000 in
theorem stations_any (l k : L4) (a : Option Addr) (cap : Nat) (ms : List M5) (w : World) (hf : Mks w a ms) (hl : ms.length ≤ 8) (hv : liB l = true) (hv2 : liB k = true) :
    Calls Try.prog 89 #[CV l k (.slice a ms.length cap)] w fun e w' => ∃ v, e = .returned v ∧ w'.ownsRow w.heap.size 25 2 v (ms.length + 2) (cellsP (stL l k ms)) ∧ Ext w w' := by
  have HF := Lib.hid hf
  clear hf
  go_enter Try.func89, Try.ntmps89
  go_wp2_with fail
  refine (parts_any _ _ _ _ _ _ (HF.out.ext (by repeat (first | exact Ext.refl _ | assumption | apply Ext.alloc | apply Ext.drew | (refine Ext.trans ?_ (by assumption)) | (refine Ext.setNew ?_ (by simp <;> omega) _)))) hl).mono ?_
  rintro e w1 ⟨v, rfl, hO, hx⟩
  rcases row_cases hO with ⟨_, h0⟩ | ⟨g, cp, rfl, hcp, _, hc⟩
  · exact absurd h0 (by omega)
  have HC := Lib.hid hc
  have X1 := Lib.hid (((Ext.refl w).alloc _).trans hx)
  clear hx hO hc
  obtain ⟨i0, hin, hz0, hz1, hz2⟩ := info_parts pointInfo
  go_wp2
  go_loopw [3, 9] (fun o i wr => RelST w1 w1.heap.size l k ms o i wr) (fun o i _ => ms.length + 2 - (intOf i).toNat)
  case atStart => exact ⟨0, rfl, Nat.zero_le _, World.ownsRow_nil _ _ _ _, Ext.refl _⟩
  case round =>
    obtain ⟨j, rfl, hj, hO, hx⟩ := hrel
    have HO := Lib.hid hO
    have HX := Lib.hid hx
    clear hO hx
    by_cases hj1 : j < ms.length + 2
    · have i0' : (0 : Int) ≤ (j : Int) := by omega
      have i1 : (j : Int) < ((ms.length + 2 : Nat) : Int) := by omega
      have i2 : (j : Int) < (ms.length : Int) + 2 := by omega
      have T7 : IntKind.i64.wrap ((j : Int) + 1) = (j : Int) + 1 := IntWalk.i64_in _ (by omega)
      have c0 : wr.cell? ⟨g, j, none⟩ = some (if j = 0 then LI l else if j ≤ ms.length then MI (mk ms (j - 1)) else LI k) := HX.out.cellOf (by rw [HC.out j (by omega), pts_at _ _ _ _ hj1])
      have TK := Lib.hid (take_st l k ms j hj1)
      have HP := Lib.hid (show stP l k ms j = if j = 0 then midP l else if j ≤ ms.length then ⟨(mk ms (j - 1)).x, (mk ms (j - 1)).y⟩ else midP k from rfl)
      rcases (show (j = 0) ∨ (¬ j = 0 ∧ j ≤ ms.length) ∨ (¬ j = 0 ∧ ¬ j ≤ ms.length) by omega) with h0 | ⟨h0, h1⟩ | ⟨h0, h1⟩
      · rw [if_pos h0] at c0 HP
        have hm := station_line l
        clear h0
        go_wp2_with (first | (go_at_call 117; refine (lineStation_any _ _ hv).mono ?_; rintro e w2 ⟨rfl, hy⟩; have XW := Lib.hid (HX.out.trans hy); have OA := row_ext HO.out ((Ext.trans (Ext.refl wr) hy).alloc (.cells #[.int .i64 (md l.a l.c), .int .i64 (md l.b l.d)] 25)); have XA := Lib.hid (XW.out.alloc (.cells #[.int .i64 (md l.a l.c), .int .i64 (md l.b l.d)] 25)); have CC := Lib.hid (lit2_cells (w := w2) (x := .int .i64 (md l.a l.c)) (y := .int .i64 (md l.b l.d)) (t := 25)); have P1 := Lib.hid (ones2 ((md l.a l.c)) ((md l.b l.d))); have P3 := Lib.hid (show j + 1 ≤ maxLen by unfold maxLen; omega); have P4 := Lib.hid (show (j + 1) * 16 ≤ 140737488355328 by omega); have zA := Lib.hid (Ext.size XA.out); clear hy) | (at_builtin; refine wpList_append_own _ rfl _ _ 106 rfl w1.heap.size 25 i0 (Pt 0 0) 2 16 Try.underlying106 hin hz0 hz1 hz2 rfl (by decide) _ j _ rfl OA ⟨w2.heap.size, 0, none⟩ 1 1 [.int .i64 (md l.a l.c), .int .i64 (md l.b l.d)] rfl rfl CC.out P1.out P3.out P4.out zA.out ?_; intro v1 w5 hown hgrow hnil; have O5 := Lib.hid (show w5.ownsRow w1.heap.size 25 2 v1 (j + 1) (cellsP ((stL l k ms).take (j + 1))) by rw [← TK.out, HP.out]; exact hown); have X5 := Lib.hid (row_grown (w0 := w1) OA hgrow (Nat.le_refl _) XA.out); clear hown hgrow hnil OA))
        go_roundw
        case rel => exact ⟨j + 1, by go_num, by omega, O5.out, X5.out⟩
        case measure => simp [intOf]; omega
      · rw [if_neg h0, if_pos h1] at c0 HP
        have hm := station_mark (mk ms (j - 1))
        clear h0
        go_wp2_with (first | (go_at_call 125; refine (markStation_any _ _).mono ?_; rintro e w2 ⟨rfl, hy⟩; have XW := Lib.hid (HX.out.trans hy); have OA := row_ext HO.out ((Ext.trans (Ext.refl wr) hy).alloc (.cells #[.int .i64 (mk ms (j - 1)).x, .int .i64 (mk ms (j - 1)).y] 25)); have XA := Lib.hid (XW.out.alloc (.cells #[.int .i64 (mk ms (j - 1)).x, .int .i64 (mk ms (j - 1)).y] 25)); have CC := Lib.hid (lit2_cells (w := w2) (x := .int .i64 (mk ms (j - 1)).x) (y := .int .i64 (mk ms (j - 1)).y) (t := 25)); have P1 := Lib.hid (ones2 ((mk ms (j - 1)).x) ((mk ms (j - 1)).y)); have P3 := Lib.hid (show j + 1 ≤ maxLen by unfold maxLen; omega); have P4 := Lib.hid (show (j + 1) * 16 ≤ 140737488355328 by omega); have zA := Lib.hid (Ext.size XA.out); clear hy) | (at_builtin; refine wpList_append_own _ rfl _ _ 106 rfl w1.heap.size 25 i0 (Pt 0 0) 2 16 Try.underlying106 hin hz0 hz1 hz2 rfl (by decide) _ j _ rfl OA ⟨w2.heap.size, 0, none⟩ 1 1 [.int .i64 (mk ms (j - 1)).x, .int .i64 (mk ms (j - 1)).y] rfl rfl CC.out P1.out P3.out P4.out zA.out ?_; intro v1 w5 hown hgrow hnil; have O5 := Lib.hid (show w5.ownsRow w1.heap.size 25 2 v1 (j + 1) (cellsP ((stL l k ms).take (j + 1))) by rw [← TK.out, HP.out]; exact hown); have X5 := Lib.hid (row_grown (w0 := w1) OA hgrow (Nat.le_refl _) XA.out); clear hown hgrow hnil OA))
        go_roundw
        case rel => exact ⟨j + 1, by go_num, by omega, O5.out, X5.out⟩
        case measure => simp [intOf]; omega
      · rw [if_neg h0, if_neg h1] at c0 HP
        have hm := station_line k
        clear h0
        go_wp2_with (first | (go_at_call 117; refine (lineStation_any _ _ hv2).mono ?_; rintro e w2 ⟨rfl, hy⟩; have XW := Lib.hid (HX.out.trans hy); have OA := row_ext HO.out ((Ext.trans (Ext.refl wr) hy).alloc (.cells #[.int .i64 (md k.a k.c), .int .i64 (md k.b k.d)] 25)); have XA := Lib.hid (XW.out.alloc (.cells #[.int .i64 (md k.a k.c), .int .i64 (md k.b k.d)] 25)); have CC := Lib.hid (lit2_cells (w := w2) (x := .int .i64 (md k.a k.c)) (y := .int .i64 (md k.b k.d)) (t := 25)); have P1 := Lib.hid (ones2 ((md k.a k.c)) ((md k.b k.d))); have P3 := Lib.hid (show j + 1 ≤ maxLen by unfold maxLen; omega); have P4 := Lib.hid (show (j + 1) * 16 ≤ 140737488355328 by omega); have zA := Lib.hid (Ext.size XA.out); clear hy) | (at_builtin; refine wpList_append_own _ rfl _ _ 106 rfl w1.heap.size 25 i0 (Pt 0 0) 2 16 Try.underlying106 hin hz0 hz1 hz2 rfl (by decide) _ j _ rfl OA ⟨w2.heap.size, 0, none⟩ 1 1 [.int .i64 (md k.a k.c), .int .i64 (md k.b k.d)] rfl rfl CC.out P1.out P3.out P4.out zA.out ?_; intro v1 w5 hown hgrow hnil; have O5 := Lib.hid (show w5.ownsRow w1.heap.size 25 2 v1 (j + 1) (cellsP ((stL l k ms).take (j + 1))) by rw [← TK.out, HP.out]; exact hown); have X5 := Lib.hid (row_grown (w0 := w1) OA hgrow (Nat.le_refl _) XA.out); clear hown hgrow hnil OA))
        go_roundw
        case rel => exact ⟨j + 1, by go_num, by omega, O5.out, X5.out⟩
        case measure => simp [intOf]; omega
    · obtain rfl : j = ms.length + 2 := by omega
      rw [List.take_of_length_le (by rw [stL_len]; exact Nat.le_refl _)] at HO
      go_wp2
      go_ret
      exact ⟨_, rfl, row_mono HO.out (Ext.size X1.out), X1.out.trans HX.out⟩
end Go.Proofs.Ytpdnefodbichkaa.Crs
namespace Go.Proofs.Ytpdnefodbichkaa.Crs
open Go.ChangeShapes Go.WideShapes Go.ChangeAt Go.RowKit Go.PlainAid
open Go.Proofs.Ytpdnefodbichkaa.Num Go.Proofs.Ytpdnefodbichkaa.Kit Go.Proofs.Ytpdnefodbichkaa.Pts Go.Proofs.Ytpdnefodbichkaa.Seg Go.Proofs.Ytpdnefodbichkaa.Div
set_option linter.unusedVariables false
set_option linter.unusedSimpArgs false
theorem stP_zero (l k : L4) (ms : List M5) : stP l k ms 0 = midP l := rfl
theorem stP_mark (l k : L4) (ms : List M5) (j : Nat) (h : j < ms.length) : stP l k ms (j + 1) = ⟨(mk ms j).x, (mk ms j).y⟩ := by
  unfold stP
  rw [if_neg (by omega), if_pos (by omega), Nat.add_sub_cancel]
theorem stP_last (l k : L4) (ms : List M5) : stP l k ms (ms.length + 1) = midP k := by
  unfold stP
  rw [if_neg (by omega), if_neg (by omega)]
def RelSS (wx : World) (b : Nat) (l k : L4) (ms : List M5) (o i : Value) (wr : World) : Prop :=
  ∃ j : Nat, i = .int .i64 j ∧ j ≤ ms.length ∧ wr.ownsRow b 25 2 o (j + 1) (cellsP ((stL l k ms).take (j + 1))) ∧ Ext wx wr
set_option maxRecDepth 100000 in
set_option maxHeartbeats 4000000 in
theorem stations_spec (l k : L4) (a : Option Addr) (cap : Nat) (ms : List M5) (w : World) (hf : Mks w a ms) (hl : ms.length ≤ 8) (hv : liB l = true) (hv2 : liB k = true) :
    Calls Try.prog 74 #[CV l k (.slice a ms.length cap)] w fun e w' => ∃ v, e = .returned v ∧ w'.ownsRow w.heap.size 25 2 v (ms.length + 2) (cellsP (stL l k ms)) ∧ Ext w w' := by
  obtain ⟨W0, hW0⟩ : ∃ W0, W0 = w.alloc (.cells (cellsC l k (.slice a ms.length cap)).toArray 43) := ⟨_, rfl⟩
  have HW := Lib.hid (show Ext w W0 from hW0 ▸ (Ext.refl w).alloc _)
  have HF := Lib.hid (hf.ext HW.out)
  have BB := Lib.hid (show Box W0 w.heap.size (cellsC l k (.slice a ms.length cap)) from hW0 ▸ Box.new rfl)
  clear hf
  go_enter Try.func74, Try.ntmps74
  go_wp2_with fail
  rw [← hW0]
  clear hW0
  refine (middle_any l _ hv).mono ?_
  rintro e w1 ⟨rfl, hx⟩
  have X1 := Lib.hid hx
  clear hx
  obtain ⟨⟨p0, p1, p2, p3, p4, p5, p6, p7, p8⟩, _⟩ := Box.nine (BB.out.ext X1.out)
  have O0 : (w1.alloc (.cells #[.int .i64 (md l.a l.c), .int .i64 (md l.b l.d)] 25)).ownsRow w1.heap.size 25 2 (.slice (some ⟨w1.heap.size, 0, none⟩) 1 1) 1 (cellsP ((stL l k ms).take 1)) := by
    have h := World.ownsRow_lit (base := w1.heap.size) (e := 25) (size := 2) w1 #[.int .i64 (md l.a l.c), .int .i64 (md l.b l.d)] 1 (Nat.le_refl _) (by unfold maxLen; omega) (by simp)
    have e := take_st l k ms 0 (by omega)
    rw [stP_zero] at e
    rw [← e]
    exact h
  replace O0 := Lib.hid O0
  obtain ⟨i0, hin, hz0, hz1, hz2⟩ := info_parts pointInfo
  go_wp2
  go_loopw [3, 4] (fun o i wr => RelSS w1 w1.heap.size l k ms o i wr) (fun o i _ => ms.length - (intOf i).toNat)
  case atStart => exact ⟨0, rfl, Nat.zero_le _, O0.out, (Ext.refl _).alloc _⟩
  case round =>
    clear p0 p1 p2 p3 p4 p5 p6 p7 p8
    obtain ⟨j, rfl, hj, hO, hx⟩ := hrel
    have HO := Lib.hid hO
    have HX := Lib.hid hx
    clear hO hx
    obtain ⟨⟨p0, p1, p2, p3, p4, p5, p6, p7, p8⟩, _⟩ := Box.nine (BB.out.ext (X1.out.trans HX.out))
    by_cases hj1 : j < ms.length
    · obtain ⟨b, off, rfl, hb⟩ := HF.out.row (by omega)
      obtain ⟨c0, c1, c2, c3, c4⟩ := (hb j hj1).ext (X1.out.trans HX.out)
      have j0 : (0 : Int) ≤ (j : Int) := by omega
      have j1 : (j : Int) < (ms.length : Int) := by omega
      have T7 : IntKind.i64.wrap ((j : Int) + 1) = (j : Int) + 1 := IntWalk.i64_in _ (by omega)
      have TK := Lib.hid (take_st l k ms (j + 1) (by omega))
      have HP := Lib.hid (stP_mark l k ms j hj1)
      have OA := row_ext HO.out ((Ext.refl wr).alloc (.cells #[.int .i64 (mk ms j).x, .int .i64 (mk ms j).y] 25))
      have XA := Lib.hid (HX.out.alloc (.cells #[.int .i64 (mk ms j).x, .int .i64 (mk ms j).y] 25))
      have CC := Lib.hid (lit2_cells (w := wr) (x := .int .i64 (mk ms j).x) (y := .int .i64 (mk ms j).y) (t := 25))
      have P1 := Lib.hid (ones2 (mk ms j).x (mk ms j).y)
      have P3 := Lib.hid (show j + 1 + 1 ≤ maxLen by unfold maxLen; omega)
      have P4 := Lib.hid (show (j + 1 + 1) * 16 ≤ 140737488355328 by omega)
      have zA := Lib.hid (Ext.size XA.out)
      clear hb
      go_wp2_with (at_builtin; refine wpList_append_own _ rfl _ _ 106 rfl w1.heap.size 25 i0 (Pt 0 0) 2 16 Try.underlying106 hin hz0 hz1 hz2 rfl (by decide) _ (j + 1) _ rfl OA ⟨wr.heap.size, 0, none⟩ 1 1 [.int .i64 (mk ms j).x, .int .i64 (mk ms j).y] rfl rfl CC.out P1.out P3.out P4.out zA.out ?_; intro v1 w5 hown hgrow hnil; have O5 := Lib.hid (show w5.ownsRow w1.heap.size 25 2 v1 (j + 1 + 1) (cellsP ((stL l k ms).take (j + 1 + 1))) by rw [← TK.out, HP.out]; exact hown); have X5 := Lib.hid (row_grown (w0 := w1) OA hgrow (Nat.le_refl _) XA.out); clear hown hgrow hnil OA)
      go_roundw
      case rel => exact ⟨j + 1, by go_num, by omega, O5.out, X5.out⟩
      case measure => simp [intOf]; omega
    · obtain rfl : j = ms.length := by omega
      have TK := Lib.hid (take_st l k ms (ms.length + 1) (by omega))
      rw [stP_last, List.take_of_length_le (i := ms.length + 1 + 1) (by rw [stL_len]; exact Nat.le_refl _)] at TK
      go_wp2_with (first | (go_at_call 64; refine (middle_any k _ hv2).mono ?_; rintro e w2 ⟨rfl, hy⟩; have XW := Lib.hid (HX.out.trans hy); have OA := row_ext HO.out (hy.alloc (.cells #[.int .i64 (md k.a k.c), .int .i64 (md k.b k.d)] 25)); have XA := Lib.hid (XW.out.alloc (.cells #[.int .i64 (md k.a k.c), .int .i64 (md k.b k.d)] 25)); have CC := Lib.hid (lit2_cells (w := w2) (x := .int .i64 (md k.a k.c)) (y := .int .i64 (md k.b k.d)) (t := 25)); have P1 := Lib.hid (ones2 (md k.a k.c) (md k.b k.d)); have P3 := Lib.hid (show ms.length + 1 + 1 ≤ maxLen by unfold maxLen; omega); have P4 := Lib.hid (show (ms.length + 1 + 1) * 16 ≤ 140737488355328 by omega); have zA := Lib.hid (Ext.size XA.out); clear hy) | (at_builtin; refine wpList_append_own _ rfl _ _ 106 rfl w1.heap.size 25 i0 (Pt 0 0) 2 16 Try.underlying106 hin hz0 hz1 hz2 rfl (by decide) _ (ms.length + 1) _ rfl OA ⟨w2.heap.size, 0, none⟩ 1 1 [.int .i64 (md k.a k.c), .int .i64 (md k.b k.d)] rfl rfl CC.out P1.out P3.out P4.out zA.out ?_; intro v1 w5 hown hgrow hnil; have O5 := Lib.hid (show w5.ownsRow w1.heap.size 25 2 v1 (ms.length + 2) (cellsP (stL l k ms)) by rw [← TK.out]; exact hown); have X5 := Lib.hid (row_grown (w0 := w1) OA hgrow (Nat.le_refl _) XA.out); clear hown hgrow hnil OA))
      go_ret
      exact ⟨_, rfl, row_mono O5.out (Ext.size (HW.out.trans X1.out)), HW.out.trans (X1.out.trans X5.out)⟩
end Go.Proofs.Ytpdnefodbichkaa.Crs
