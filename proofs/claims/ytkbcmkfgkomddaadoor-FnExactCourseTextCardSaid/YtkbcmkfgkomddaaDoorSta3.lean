import Derived.Test.YtkbcmkfgkomddaaDoorSta2
namespace Go.Proofs.YtkbcmkfgkomddaaDoor.Crs
open Go.ChangeShapes Go.WideShapes Go.ChangeAt Go.RowKit Go.PlainAid
open Go.Proofs.YtkbcmkfgkomddaaDoor.Num Go.Proofs.YtkbcmkfgkomddaaDoor.Kit Go.Proofs.YtkbcmkfgkomddaaDoor.Pts Go.Proofs.YtkbcmkfgkomddaaDoor.Seg Go.Proofs.YtkbcmkfgkomddaaDoor.Div
set_option linter.unusedVariables false
set_option linter.unusedSimpArgs false
structure P2 where
  x : Int
  y : Int
def midP (l : L4) : P2 := ⟨md l.a l.c, md l.b l.d⟩
def stL (l k : L4) (ms : List M5) : List P2 := (midP l :: ms.map fun m => ⟨m.x, m.y⟩) ++ [midP k]
def cellsP (ps : List P2) : List Value := ps.flatMap fun p => [.int .i64 p.x, .int .i64 p.y]
def stP (l k : L4) (ms : List M5) (i : Nat) : P2 := if i = 0 then midP l else if i ≤ ms.length then ⟨(mk ms (i - 1)).x, (mk ms (i - 1)).y⟩ else midP k
theorem stL_len (l k : L4) (ms : List M5) : (stL l k ms).length = ms.length + 2 := by simp [stL]
theorem stL_at (l k : L4) (ms : List M5) (i : Nat) (hi : i < ms.length + 2) : (stL l k ms)[i]? = some (stP l k ms i) := by
  unfold stL stP
  rcases Nat.eq_zero_or_pos i with rfl | h0
  · simp
  · rw [if_neg (by omega)]
    by_cases h : i ≤ ms.length
    · rw [if_pos h, List.getElem?_append_left (by simp; omega)]
      obtain ⟨j, rfl⟩ : ∃ j, i = j + 1 := ⟨i - 1, by omega⟩
      have hj : j < ms.length := by omega
      simp [mk, hj]
    · rw [if_neg h]
      obtain rfl : i = ms.length + 1 := by omega
      rw [List.getElem?_append_right (by simp)]
      simp
theorem cellsP_app (ps : List P2) (p : P2) : cellsP ps ++ [.int .i64 p.x, .int .i64 p.y] = cellsP (ps ++ [p]) := by simp [cellsP]
theorem cellsP_get : ∀ (ps : List P2) (i : Nat) (p : P2), ps[i]? = some p → (cellsP ps)[i * 2]? = some (.int .i64 p.x) ∧ (cellsP ps)[i * 2 + 1]? = some (.int .i64 p.y)
  | [], i, p, h => by simp at h
  | q :: ps, 0, p, h => by simp at h; subst h; simp [cellsP]
  | q :: ps, i + 1, p, h => by
    have := cellsP_get ps i p (by simpa using h)
    have e : cellsP (q :: ps) = .int .i64 q.x :: .int .i64 q.y :: cellsP ps := by simp [cellsP]
    rw [e, show (i + 1) * 2 = i * 2 + 2 by omega]
    simpa using this
theorem take_st (l k : L4) (ms : List M5) (i : Nat) (hi : i < ms.length + 2) : cellsP ((stL l k ms).take i) ++ [.int .i64 (stP l k ms i).x, .int .i64 (stP l k ms i).y] = cellsP ((stL l k ms).take (i + 1)) := by
  have h := stL_at l k ms i hi
  obtain ⟨hlt, e⟩ := List.getElem?_eq_some_iff.1 h
  rw [List.take_succ_eq_append_getElem hlt, ← cellsP_app, e]
theorem pointInfo : (Tryd.prog.info? 31).map (fun i => (i.zero, i.size, i.bytes)) = some (some (Pt 0 0), 2, 16) := by kernel_rfl
theorem lit2_cells {w : World} {x y : Value} {t : TypeId} : ∀ (j : Nat) (u : Value), ([x, y] : List Value)[j]? = some u → (w.alloc (.cells #[x, y] t)).cell? ((⟨w.heap.size, 0, none⟩ : Addr).add j) = some u := by
  intro j u hu
  rw [show (⟨w.heap.size, 0, none⟩ : Addr).add j = ⟨w.heap.size, j, none⟩ by simp [Addr.add]; omega]
  exact boxed j (by simpa using hu) rfl
theorem ones2 (x y : Int) : ∀ u ∈ ([.int .i64 x, .int .i64 y] : List Value), u.oneCell' = true := by
  intro u hu
  simp at hu
  rcases hu with rfl | rfl <;> rfl
def RelST (wx : World) (b : Nat) (l k : L4) (ms : List M5) (o i : Value) (wr : World) : Prop :=
  ∃ j : Nat, i = .int .i64 j ∧ j ≤ ms.length + 2 ∧ wr.ownsRow b 31 2 o j (cellsP ((stL l k ms).take j)) ∧ Ext wx wr
set_option maxRecDepth 100000 in
set_option maxHeartbeats 4000000 in
theorem stations_any (l k : L4) (a : Option Addr) (cap : Nat) (ms : List M5) (w : World) (hf : Mks w a ms) (hl : ms.length ≤ 8) (hv : liB l = true) (hv2 : liB k = true) :
    Calls Tryd.prog 53 #[CV l k (.slice a ms.length cap)] w fun e w' => ∃ v, e = .returned v ∧ w'.ownsRow w.heap.size 31 2 v (ms.length + 2) (cellsP (stL l k ms)) ∧ Ext w w' := by
  have HF := Lib.hid hf
  clear hf
  go_enter Tryd.func53, Tryd.ntmps53
  go_wp2_with fail
  refine (parts_any _ _ _ _ _ _ (HF.out.ext (by repeat (first | exact Ext.refl _ | assumption | apply Ext.alloc | apply Ext.drew | (refine Ext.trans ?_ (by assumption)) | (refine Ext.setNew ?_ (by simp <;> omega) _)))) hl).mono ?_
  rintro e w1 ⟨v, rfl, hO, hx⟩
  rcases row_cases hO with ⟨_, h0⟩ | ⟨g, cp, rfl, hcp, _, hc⟩
  · exact absurd h0 (by omega)
  have HC := Lib.hid hc
  have X1 := Lib.hid (((Ext.refl w).alloc _).trans hx)
  clear hx hO hc
  obtain ⟨i0, hin, hz0, hz1, hz2⟩ := info_parts pointInfo
  go_wp2
  go_loopw [3, 9] (fun o i wr => RelST w1 w1.heap.size l k ms o i wr) (fun o i _ => ms.length + 2 - (intOf i).toNat)
  case atStart => exact ⟨0, rfl, Nat.zero_le _, World.ownsRow_nil _ _ _ _, Ext.refl _⟩
  case round =>
    obtain ⟨j, rfl, hj, hO, hx⟩ := hrel
    have HO := Lib.hid hO
    have HX := Lib.hid hx
    clear hO hx
    by_cases hj1 : j < ms.length + 2
    · have i0' : (0 : Int) ≤ (j : Int) := by omega
      have i1 : (j : Int) < ((ms.length + 2 : Nat) : Int) := by omega
      have i2 : (j : Int) < (ms.length : Int) + 2 := by omega
      have T7 : IntKind.i64.wrap ((j : Int) + 1) = (j : Int) + 1 := IntWalk.i64_in _ (by omega)
      have c0 : wr.cell? ⟨g, j, none⟩ = some (if j = 0 then LI l else if j ≤ ms.length then MI (mk ms (j - 1)) else LI k) := HX.out.cellOf (by rw [HC.out j (by omega), pts_at _ _ _ _ hj1])
      have TK := Lib.hid (take_st l k ms j hj1)
      have HP := Lib.hid (show stP l k ms j = if j = 0 then midP l else if j ≤ ms.length then ⟨(mk ms (j - 1)).x, (mk ms (j - 1)).y⟩ else midP k from rfl)
      rcases (show (j = 0) ∨ (¬ j = 0 ∧ j ≤ ms.length) ∨ (¬ j = 0 ∧ ¬ j ≤ ms.length) by omega) with h0 | ⟨h0, h1⟩ | ⟨h0, h1⟩
      · rw [if_pos h0] at c0 HP
        have hm := station_line l
        clear h0
        go_wp2_with (first | (go_at_call 87; refine (lineStation_any _ _ hv).mono ?_; rintro e w2 ⟨rfl, hy⟩; have XW := Lib.hid (HX.out.trans hy); have OA := row_ext HO.out ((Ext.trans (Ext.refl wr) hy).alloc (.cells #[.int .i64 (md l.a l.c), .int .i64 (md l.b l.d)] 31)); have XA := Lib.hid (XW.out.alloc (.cells #[.int .i64 (md l.a l.c), .int .i64 (md l.b l.d)] 31)); have CC := Lib.hid (lit2_cells (w := w2) (x := .int .i64 (md l.a l.c)) (y := .int .i64 (md l.b l.d)) (t := 31)); have P1 := Lib.hid (ones2 ((md l.a l.c)) ((md l.b l.d))); have P3 := Lib.hid (show j + 1 ≤ maxLen by unfold maxLen; omega); have P4 := Lib.hid (show (j + 1) * 16 ≤ 140737488355328 by omega); have zA := Lib.hid (Ext.size XA.out); clear hy) | (at_builtin; refine wpList_append_own _ rfl _ _ 58 rfl w1.heap.size 31 i0 (Pt 0 0) 2 16 Tryd.underlying58 hin hz0 hz1 hz2 rfl (by decide) _ j _ rfl OA ⟨w2.heap.size, 0, none⟩ 1 1 [.int .i64 (md l.a l.c), .int .i64 (md l.b l.d)] rfl rfl CC.out P1.out P3.out P4.out zA.out ?_; intro v1 w5 hown hgrow hnil; have O5 := Lib.hid (show w5.ownsRow w1.heap.size 31 2 v1 (j + 1) (cellsP ((stL l k ms).take (j + 1))) by rw [← TK.out, HP.out]; exact hown); have X5 := Lib.hid (row_grown (w0 := w1) OA hgrow (Nat.le_refl _) XA.out); clear hown hgrow hnil OA))
        go_roundw
        case rel => exact ⟨j + 1, by go_num, by omega, O5.out, X5.out⟩
        case measure => simp [intOf]; omega
      · rw [if_neg h0, if_pos h1] at c0 HP
        have hm := station_mark (mk ms (j - 1))
        clear h0
        go_wp2_with (first | (go_at_call 98; refine (markStation_any _ _).mono ?_; rintro e w2 ⟨rfl, hy⟩; have XW := Lib.hid (HX.out.trans hy); have OA := row_ext HO.out ((Ext.trans (Ext.refl wr) hy).alloc (.cells #[.int .i64 (mk ms (j - 1)).x, .int .i64 (mk ms (j - 1)).y] 31)); have XA := Lib.hid (XW.out.alloc (.cells #[.int .i64 (mk ms (j - 1)).x, .int .i64 (mk ms (j - 1)).y] 31)); have CC := Lib.hid (lit2_cells (w := w2) (x := .int .i64 (mk ms (j - 1)).x) (y := .int .i64 (mk ms (j - 1)).y) (t := 31)); have P1 := Lib.hid (ones2 ((mk ms (j - 1)).x) ((mk ms (j - 1)).y)); have P3 := Lib.hid (show j + 1 ≤ maxLen by unfold maxLen; omega); have P4 := Lib.hid (show (j + 1) * 16 ≤ 140737488355328 by omega); have zA := Lib.hid (Ext.size XA.out); clear hy) | (at_builtin; refine wpList_append_own _ rfl _ _ 58 rfl w1.heap.size 31 i0 (Pt 0 0) 2 16 Tryd.underlying58 hin hz0 hz1 hz2 rfl (by decide) _ j _ rfl OA ⟨w2.heap.size, 0, none⟩ 1 1 [.int .i64 (mk ms (j - 1)).x, .int .i64 (mk ms (j - 1)).y] rfl rfl CC.out P1.out P3.out P4.out zA.out ?_; intro v1 w5 hown hgrow hnil; have O5 := Lib.hid (show w5.ownsRow w1.heap.size 31 2 v1 (j + 1) (cellsP ((stL l k ms).take (j + 1))) by rw [← TK.out, HP.out]; exact hown); have X5 := Lib.hid (row_grown (w0 := w1) OA hgrow (Nat.le_refl _) XA.out); clear hown hgrow hnil OA))
        go_roundw
        case rel => exact ⟨j + 1, by go_num, by omega, O5.out, X5.out⟩
        case measure => simp [intOf]; omega
      · rw [if_neg h0, if_neg h1] at c0 HP
        have hm := station_line k
        clear h0
        go_wp2_with (first | (go_at_call 87; refine (lineStation_any _ _ hv2).mono ?_; rintro e w2 ⟨rfl, hy⟩; have XW := Lib.hid (HX.out.trans hy); have OA := row_ext HO.out ((Ext.trans (Ext.refl wr) hy).alloc (.cells #[.int .i64 (md k.a k.c), .int .i64 (md k.b k.d)] 31)); have XA := Lib.hid (XW.out.alloc (.cells #[.int .i64 (md k.a k.c), .int .i64 (md k.b k.d)] 31)); have CC := Lib.hid (lit2_cells (w := w2) (x := .int .i64 (md k.a k.c)) (y := .int .i64 (md k.b k.d)) (t := 31)); have P1 := Lib.hid (ones2 ((md k.a k.c)) ((md k.b k.d))); have P3 := Lib.hid (show j + 1 ≤ maxLen by unfold maxLen; omega); have P4 := Lib.hid (show (j + 1) * 16 ≤ 140737488355328 by omega); have zA := Lib.hid (Ext.size XA.out); clear hy) | (at_builtin; refine wpList_append_own _ rfl _ _ 58 rfl w1.heap.size 31 i0 (Pt 0 0) 2 16 Tryd.underlying58 hin hz0 hz1 hz2 rfl (by decide) _ j _ rfl OA ⟨w2.heap.size, 0, none⟩ 1 1 [.int .i64 (md k.a k.c), .int .i64 (md k.b k.d)] rfl rfl CC.out P1.out P3.out P4.out zA.out ?_; intro v1 w5 hown hgrow hnil; have O5 := Lib.hid (show w5.ownsRow w1.heap.size 31 2 v1 (j + 1) (cellsP ((stL l k ms).take (j + 1))) by rw [← TK.out, HP.out]; exact hown); have X5 := Lib.hid (row_grown (w0 := w1) OA hgrow (Nat.le_refl _) XA.out); clear hown hgrow hnil OA))
        go_roundw
        case rel => exact ⟨j + 1, by go_num, by omega, O5.out, X5.out⟩
        case measure => simp [intOf]; omega
    · obtain rfl : j = ms.length + 2 := by omega
      rw [List.take_of_length_le (by rw [stL_len]; exact Nat.le_refl _)] at HO
      go_wp2
      go_ret
      exact ⟨_, rfl, row_mono HO.out (Ext.size X1.out), X1.out.trans HX.out⟩
end Go.Proofs.YtkbcmkfgkomddaaDoor.Crs
