import Derived.Test.YtkbcmkfgkomddaaDoorSta3
namespace Go.Proofs.YtkbcmkfgkomddaaDoor.Crs
open Go.ChangeShapes Go.WideShapes Go.ChangeAt Go.RowKit Go.PlainAid
open Go.Proofs.YtkbcmkfgkomddaaDoor.Num Go.Proofs.YtkbcmkfgkomddaaDoor.Kit Go.Proofs.YtkbcmkfgkomddaaDoor.Pts Go.Proofs.YtkbcmkfgkomddaaDoor.Seg Go.Proofs.YtkbcmkfgkomddaaDoor.Div
set_option linter.unusedVariables false
set_option linter.unusedSimpArgs false
theorem stP_zero (l k : L4) (ms : List M5) : stP l k ms 0 = midP l := rfl
theorem stP_mark (l k : L4) (ms : List M5) (j : Nat) (h : j < ms.length) : stP l k ms (j + 1) = ⟨(mk ms j).x, (mk ms j).y⟩ := by
  unfold stP
  rw [if_neg (by omega), if_pos (by omega), Nat.add_sub_cancel]
theorem stP_last (l k : L4) (ms : List M5) : stP l k ms (ms.length + 1) = midP k := by
  unfold stP
  rw [if_neg (by omega), if_neg (by omega)]
def RelSS (wx : World) (b : Nat) (l k : L4) (ms : List M5) (o i : Value) (wr : World) : Prop :=
  ∃ j : Nat, i = .int .i64 j ∧ j ≤ ms.length ∧ wr.ownsRow b 31 2 o (j + 1) (cellsP ((stL l k ms).take (j + 1))) ∧ Ext wx wr
set_option maxRecDepth 100000 in
set_option maxHeartbeats 4000000 in
theorem stations_spec (l k : L4) (a : Option Addr) (cap : Nat) (ms : List M5) (w : World) (hf : Mks w a ms) (hl : ms.length ≤ 8) (hv : liB l = true) (hv2 : liB k = true) :
    Calls Tryd.prog 23 #[CV l k (.slice a ms.length cap)] w fun e w' => ∃ v, e = .returned v ∧ w'.ownsRow w.heap.size 31 2 v (ms.length + 2) (cellsP (stL l k ms)) ∧ Ext w w' := by
  obtain ⟨W0, hW0⟩ : ∃ W0, W0 = w.alloc (.cells (cellsC l k (.slice a ms.length cap)).toArray 36) := ⟨_, rfl⟩
  have HW := Lib.hid (show Ext w W0 from hW0 ▸ (Ext.refl w).alloc _)
  have HF := Lib.hid (hf.ext HW.out)
  have BB := Lib.hid (show Box W0 w.heap.size (cellsC l k (.slice a ms.length cap)) from hW0 ▸ Box.new rfl)
  clear hf
  go_enter Tryd.func23, Tryd.ntmps23
  go_wp2_with fail
  rw [← hW0]
  clear hW0
  refine (middle_any l _ hv).mono ?_
  rintro e w1 ⟨rfl, hx⟩
  have X1 := Lib.hid hx
  clear hx
  obtain ⟨⟨p0, p1, p2, p3, p4, p5, p6, p7, p8⟩, _⟩ := Box.nine (BB.out.ext X1.out)
  have O0 : (w1.alloc (.cells #[.int .i64 (md l.a l.c), .int .i64 (md l.b l.d)] 31)).ownsRow w1.heap.size 31 2 (.slice (some ⟨w1.heap.size, 0, none⟩) 1 1) 1 (cellsP ((stL l k ms).take 1)) := by
    have h := World.ownsRow_lit (base := w1.heap.size) (e := 31) (size := 2) w1 #[.int .i64 (md l.a l.c), .int .i64 (md l.b l.d)] 1 (Nat.le_refl _) (by unfold maxLen; omega) (by simp)
    have e := take_st l k ms 0 (by omega)
    rw [stP_zero] at e
    rw [← e]
    exact h
  replace O0 := Lib.hid O0
  obtain ⟨i0, hin, hz0, hz1, hz2⟩ := info_parts pointInfo
  go_wp2
  go_loopw [3, 4] (fun o i wr => RelSS w1 w1.heap.size l k ms o i wr) (fun o i _ => ms.length - (intOf i).toNat)
  case atStart => exact ⟨0, rfl, Nat.zero_le _, O0.out, (Ext.refl _).alloc _⟩
  case round =>
    clear p0 p1 p2 p3 p4 p5 p6 p7 p8
    obtain ⟨j, rfl, hj, hO, hx⟩ := hrel
    have HO := Lib.hid hO
    have HX := Lib.hid hx
    clear hO hx
    obtain ⟨⟨p0, p1, p2, p3, p4, p5, p6, p7, p8⟩, _⟩ := Box.nine (BB.out.ext (X1.out.trans HX.out))
    by_cases hj1 : j < ms.length
    · obtain ⟨b, off, rfl, hb⟩ := HF.out.row (by omega)
      obtain ⟨c0, c1, c2, c3, c4⟩ := (hb j hj1).ext (X1.out.trans HX.out)
      have j0 : (0 : Int) ≤ (j : Int) := by omega
      have j1 : (j : Int) < (ms.length : Int) := by omega
      have T7 : IntKind.i64.wrap ((j : Int) + 1) = (j : Int) + 1 := IntWalk.i64_in _ (by omega)
      have TK := Lib.hid (take_st l k ms (j + 1) (by omega))
      have HP := Lib.hid (stP_mark l k ms j hj1)
      have OA := row_ext HO.out ((Ext.refl wr).alloc (.cells #[.int .i64 (mk ms j).x, .int .i64 (mk ms j).y] 31))
      have XA := Lib.hid (HX.out.alloc (.cells #[.int .i64 (mk ms j).x, .int .i64 (mk ms j).y] 31))
      have CC := Lib.hid (lit2_cells (w := wr) (x := .int .i64 (mk ms j).x) (y := .int .i64 (mk ms j).y) (t := 31))
      have P1 := Lib.hid (ones2 (mk ms j).x (mk ms j).y)
      have P3 := Lib.hid (show j + 1 + 1 ≤ maxLen by unfold maxLen; omega)
      have P4 := Lib.hid (show (j + 1 + 1) * 16 ≤ 140737488355328 by omega)
      have zA := Lib.hid (Ext.size XA.out)
      clear hb
      go_wp2_with (at_builtin; refine wpList_append_own _ rfl _ _ 58 rfl w1.heap.size 31 i0 (Pt 0 0) 2 16 Tryd.underlying58 hin hz0 hz1 hz2 rfl (by decide) _ (j + 1) _ rfl OA ⟨wr.heap.size, 0, none⟩ 1 1 [.int .i64 (mk ms j).x, .int .i64 (mk ms j).y] rfl rfl CC.out P1.out P3.out P4.out zA.out ?_; intro v1 w5 hown hgrow hnil; have O5 := Lib.hid (show w5.ownsRow w1.heap.size 31 2 v1 (j + 1 + 1) (cellsP ((stL l k ms).take (j + 1 + 1))) by rw [← TK.out, HP.out]; exact hown); have X5 := Lib.hid (row_grown (w0 := w1) OA hgrow (Nat.le_refl _) XA.out); clear hown hgrow hnil OA)
      go_roundw
      case rel => exact ⟨j + 1, by go_num, by omega, O5.out, X5.out⟩
      case measure => simp [intOf]; omega
    · obtain rfl : j = ms.length := by omega
      have TK := Lib.hid (take_st l k ms (ms.length + 1) (by omega))
      rw [stP_last, List.take_of_length_le (i := ms.length + 1 + 1) (by rw [stL_len]; exact Nat.le_refl _)] at TK
      go_wp2_with (first | (go_at_call 42; refine (middle_any k _ hv2).mono ?_; rintro e w2 ⟨rfl, hy⟩; have XW := Lib.hid (HX.out.trans hy); have OA := row_ext HO.out (hy.alloc (.cells #[.int .i64 (md k.a k.c), .int .i64 (md k.b k.d)] 31)); have XA := Lib.hid (XW.out.alloc (.cells #[.int .i64 (md k.a k.c), .int .i64 (md k.b k.d)] 31)); have CC := Lib.hid (lit2_cells (w := w2) (x := .int .i64 (md k.a k.c)) (y := .int .i64 (md k.b k.d)) (t := 31)); have P1 := Lib.hid (ones2 (md k.a k.c) (md k.b k.d)); have P3 := Lib.hid (show ms.length + 1 + 1 ≤ maxLen by unfold maxLen; omega); have P4 := Lib.hid (show (ms.length + 1 + 1) * 16 ≤ 140737488355328 by omega); have zA := Lib.hid (Ext.size XA.out); clear hy) | (at_builtin; refine wpList_append_own _ rfl _ _ 58 rfl w1.heap.size 31 i0 (Pt 0 0) 2 16 Tryd.underlying58 hin hz0 hz1 hz2 rfl (by decide) _ (ms.length + 1) _ rfl OA ⟨w2.heap.size, 0, none⟩ 1 1 [.int .i64 (md k.a k.c), .int .i64 (md k.b k.d)] rfl rfl CC.out P1.out P3.out P4.out zA.out ?_; intro v1 w5 hown hgrow hnil; have O5 := Lib.hid (show w5.ownsRow w1.heap.size 31 2 v1 (ms.length + 2) (cellsP (stL l k ms)) by rw [← TK.out]; exact hown); have X5 := Lib.hid (row_grown (w0 := w1) OA hgrow (Nat.le_refl _) XA.out); clear hown hgrow hnil OA))
      go_ret
      exact ⟨_, rfl, row_mono O5.out (Ext.size (HW.out.trans X1.out)), HW.out.trans (X1.out.trans X5.out)⟩
end Go.Proofs.YtkbcmkfgkomddaaDoor.Crs
