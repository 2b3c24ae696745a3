import Derived.Test.YtmlojndkpnhalaaGreatMZon2
import Derived.Test.YtmlojndkpnhalaaGreatZon4
namespace Go.Proofs.YtmlojndkpnhalaaGreat.Crs
open Go.ChangeShapes Go.WideShapes Go.ChangeAt Go.RowKit Go.PlainAid
open Go.Proofs.YtmlojndkpnhalaaGreat.Num Go.Proofs.YtmlojndkpnhalaaGreat.Kit Go.Proofs.YtmlojndkpnhalaaGreat.Pts Go.Proofs.YtmlojndkpnhalaaGreat.Seg Go.Proofs.YtmlojndkpnhalaaGreat.Div Go.Proofs.YtmlojndkpnhalaaGreat.Root Go.Proofs.YtmlojndkpnhalaaGreat.Rt Go.Proofs.YtmlojndkpnhalaaGreat.Gcd
open Go.Proofs.YtmlojndkpnhalaaGreat.Trk (F3 Fxs Tr trB fx lastB legOf pkX pkY)
open Go.Proofs.YtmlojndkpnhalaaGreat.Win (wiB)
set_option linter.unusedVariables false
set_option linter.unusedSimpArgs false
set_option maxRecDepth 100000 in
set_option maxHeartbeats 8000000 in
theorem legs_spec (m : M5) (a : Option Addr) (cap : Nat) (fs : List F3) (w : World) (hf : Fxs w a fs) (hv : trB fs = true) (hm : mkB m = true) :
    Calls Tryz.prog 83 #[MV m, Tr (.slice a fs.length cap)] w fun e w' => ∃ v, e = .returned v ∧ OwnZ w' w.heap.size v (tzL m fs) ∧ Ext w w' := by
  obtain ⟨⟨h2, h40⟩, _⟩ := Trk.trB_yes hv
  have KT := Lib.hid (fun (i : Nat) w' (h : Fxs w' a fs) (hi : i + 1 < fs.length) => touches_spec m a cap fs i w' h hi hv hm)
  obtain ⟨W0, hW0⟩ : ∃ W0, W0 = (w.alloc (.cells #[.string m.n, .int .i64 m.x, .int .i64 m.y, .int .i64 m.s, .int .i64 m.z] 145)).alloc (.cells #[.slice a fs.length cap] 33) := ⟨_, rfl⟩
  have hX : Ext w W0 := hW0 ▸ (((Ext.refl w).alloc _).alloc _)
  have hs0 : W0.heap.size = w.heap.size + 1 + 1 := by rw [hW0]; simp
  have e00 : ∀ w', (Ext W0) w' → w'.cell? ⟨w.heap.size, 0, none⟩ = some (.string m.n) := fun w' h => h.cellOf (by rw [hW0]; exact ((Ext.refl _).alloc _).cellOf (boxed 0 rfl (by simp)))
  have e01 : ∀ w', (Ext W0) w' → w'.cell? ⟨w.heap.size, 1, none⟩ = some (.int .i64 m.x) := fun w' h => h.cellOf (by rw [hW0]; exact ((Ext.refl _).alloc _).cellOf (boxed 1 rfl (by simp)))
  have e02 : ∀ w', (Ext W0) w' → w'.cell? ⟨w.heap.size, 2, none⟩ = some (.int .i64 m.y) := fun w' h => h.cellOf (by rw [hW0]; exact ((Ext.refl _).alloc _).cellOf (boxed 2 rfl (by simp)))
  have e03 : ∀ w', (Ext W0) w' → w'.cell? ⟨w.heap.size, 3, none⟩ = some (.int .i64 m.s) := fun w' h => h.cellOf (by rw [hW0]; exact ((Ext.refl _).alloc _).cellOf (boxed 3 rfl (by simp)))
  have e04 : ∀ w', (Ext W0) w' → w'.cell? ⟨w.heap.size, 4, none⟩ = some (.int .i64 m.z) := fun w' h => h.cellOf (by rw [hW0]; exact ((Ext.refl _).alloc _).cellOf (boxed 4 rfl (by simp)))
  have e10 : ∀ w', (Ext W0) w' → w'.cell? ⟨w.heap.size + 1, 0, none⟩ = some (.slice a fs.length cap) := fun w' h => h.cellOf (by rw [hW0]; exact boxed 0 rfl (by simp))
  have HF := Lib.hid (hf.ext hX)
  clear hf hv hm
  obtain ⟨i0, hin, hz0, hz1, hz2⟩ := info_parts int64Info
  obtain ⟨W1, hW1⟩ : ∃ W1, W1 = W0.alloc (.cells #[] 2) := ⟨_, rfl⟩
  have h1 : Ext W0 W1 := hW1 ▸ (Ext.refl W0).alloc _
  have O1 := Lib.hid (show OwnZ W1 W0.heap.size (.slice (some ⟨W0.heap.size, 0, none⟩) 0 0) [] from hW1 ▸ World.ownsRow_lit (base := W0.heap.size) (e := 2) (size := 1) W0 #[] 0 (Nat.le_refl _) (by unfold maxLen; omega) rfl)
  go_enter Tryz.func83, Tryz.ntmps83
  go_wp2
  rw [← hW0, ← hW1]
  rw [hs0] at O1
  clear hW0 hW1
  go_loopw [5, 6] (fun o i wr => RelTg W0 W0.heap.size m fs o i wr) (fun o i _ => fs.length - 1 - (intOf i).toNat)
  case atStart => exact ⟨0, rfl, Nat.zero_le _, hs0 ▸ O1.out, h1⟩
  case round =>
    obtain ⟨j, rfl, hj, hO, hx⟩ := hrel
    have HO := Lib.hid hO
    have HX := Lib.hid hx
    clear hO hx
    have HY := Lib.hid HX.out
    have c10 := e10 _ HY.out
    have T7 : IntKind.i64.wrap ((j : Int) + 1) = (j : Int) + 1 := IntWalk.i64_in _ (by omega)
    by_cases hj1 : j < fs.length - 1
    · have q1 : (j : Int) + 1 < (fs.length : Int) := by omega
      have q2 : decide ((j : Int) + 1 < (fs.length : Int)) = true := decide_eq_true q1
      have c00 := e00 _ HY.out
      have c01 := e01 _ HY.out
      have c02 := e02 _ HY.out
      have c03 := e03 _ HY.out
      have c04 := e04 _ HY.out
      have KJ := Lib.hid (KT.out j wr (HF.out.ext HY.out) (by omega))
      cases hb : tgB m fs j
      · have EQ := Lib.hid (tgL_no hb)
        rw [hb] at KJ
        clear hb
        go_wp2_with fail
        refine KJ.out.mono ?_
        rintro e w5 ⟨rfl, hz⟩
        have X5 := Lib.hid hz
        clear hz
        go_wp2
        go_roundw
        case rel => exact ⟨j + 1, by go_num, by omega, by rw [EQ.out]; exact OwnZ.ext HO.out X5.out, HX.out.trans X5.out⟩
        case measure => simp [intOf]; omega
      · have EQ := Lib.hid (tgL_yes hb)
        rw [hb] at KJ
        clear hb
        go_wp2_with fail
        refine KJ.out.mono ?_
        rintro e w5 ⟨rfl, hz⟩
        have LN := Lib.hid (tgL_len m fs j)
        have OA := row_ext (row_ext HO.out hz) ((Ext.refl w5).alloc (.cells #[.int .i64 (j : Int)] 2))
        have XA := Lib.hid ((HX.out.trans hz).alloc (.cells #[.int .i64 (j : Int)] 2))
        have CC := Lib.hid (lit_cells (w := w5) (n := w5.heap.size) (u := .int .i64 (j : Int)) (t := 2) rfl)
        have P1 := Lib.hid (one_int (j : Int))
        obtain ⟨zs, hzs⟩ : ∃ zs, zs = tgL m fs j := ⟨_, rfl⟩
        rw [← hzs] at OA LN EQ
        have P3 := Lib.hid (show zs.length + 1 ≤ maxLen by unfold maxLen; have := LN.out; omega)
        have P4 := Lib.hid (show (zs.length + 1) * 8 ≤ 140737488355328 by have := LN.out; omega)
        have zA := Lib.hid (show W0.heap.size ≤ (w5.alloc (.cells #[.int .i64 (j : Int)] 2)).heap.size from Ext.size XA.out)
        have E5 := Lib.hid (show cellsZ (zs ++ [(j : Int)]) = cellsZ zs ++ [.int .i64 (j : Int)] by simp [cellsZ])
        have L5 := Lib.hid (show (zs ++ [(j : Int)]).length = zs.length + 1 by simp)
        clear hzs hz c00 c01 c02 c03 c04 c10
        go_wp2_with (at_builtin; refine wpList_append_own _ rfl _ _ 38 rfl W0.heap.size 2 i0 (.int .i64 0) 1 8 Tryz.underlying38 hin hz0 hz1 hz2 rfl (by decide) _ zs.length _ rfl OA ⟨w5.heap.size, 0, none⟩ 1 1 [.int .i64 (j : Int)] rfl rfl CC.out P1.out P3.out P4.out zA.out ?_; intro v1 w6 hown hgrow hnil; have O5 := Lib.hid (show OwnZ w6 W0.heap.size v1 (zs ++ [(j : Int)]) by unfold OwnZ; rw [L5.out, E5.out]; exact hown); have X5 := Lib.hid (row_grown (w0 := W0) OA hgrow (Nat.le_refl _) XA.out); clear hown hgrow hnil OA)
        go_roundw
        case rel => exact ⟨j + 1, by go_num, by omega, by rw [EQ.out]; exact O5.out, X5.out⟩
        case measure => simp [intOf]; omega
    · obtain rfl : j = fs.length - 1 := by omega
      have q1 : ¬ (((fs.length - 1 : Nat) : Int) + 1 < (fs.length : Int)) := by omega
      have q2 : decide (((fs.length - 1 : Nat) : Int) + 1 < (fs.length : Int)) = false := decide_eq_false q1
      go_wp2
      go_ret
      exact ⟨_, rfl, row_mono (show OwnZ wr W0.heap.size _ (tzL m fs) from HO.out) (Ext.size hX), hX.trans HY.out⟩
end Go.Proofs.YtmlojndkpnhalaaGreat.Crs
