/- FnExactKeepClearTable: for every wind and every row of boats, impl.KeepClearTable and spec.KeepClearTable answer the same, the row is as it was, and the answer has rows of its own. No condition. -/
import Derived.Test.YtcangdcakgcpaaaKct3
import Derived.Test.YtcangdcakgcpaaaRri2
import Derived.Test.YtcangdcakgcpaaaBts2
import Derived.Test.YtcangdcakgcpaaaOpnB
import Derived.ChangeOld
import Derived.Below
import Derived.Deep.DeepCutAuto
import Derived.Lib.SmallJoins
namespace Go.Proofs.Ytcangdcakgcpaaa.fnExactKeepClearTable
open Go.ChangeShapes Go.WideShapes Go.ChangeAt Go.RowKit
open Go.Proofs.Ytcangdcakgcpaaa.Num Go.Proofs.Ytcangdcakgcpaaa.Kit Go.Proofs.Ytcangdcakgcpaaa.Pts Go.Proofs.Ytcangdcakgcpaaa.Seg Go.Proofs.Ytcangdcakgcpaaa.Wnd Go.Proofs.Ytcangdcakgcpaaa.Hul Go.Proofs.Ytcangdcakgcpaaa.Rul Go.Proofs.Ytcangdcakgcpaaa.Bts Go.Proofs.Ytcangdcakgcpaaa.Rwz Go.Proofs.Ytcangdcakgcpaaa.Rri
open Go.Proofs.Ytcangdcakgcpaaa.Mnv (row_ext row_mono row_grown)
open Go.ChangeShapes Go.WideShapes Go.ChangeAt Go.RowKit Go.PlainAid
open Go.Proofs.Ytcangdcakgcpaaa.Num Go.Proofs.Ytcangdcakgcpaaa.Kit Go.Proofs.Ytcangdcakgcpaaa.Pts Go.Proofs.Ytcangdcakgcpaaa.Seg Go.Proofs.Ytcangdcakgcpaaa.Hul
open Go.Proofs.Ytcangdcakgcpaaa.Mnv (set_other RelE)
open Go.Proofs.Ytcangdcakgcpaaa.Kct
open Go.Proofs.Ytcangdcakgcpaaa.Rri
set_option linter.unusedVariables false
set_option linter.unusedSimpArgs false

set_option maxHeartbeats 2000000 in
theorem toBoatS_lt (a : Option Addr) (cap : Nat) (bs : List B6) (w : World) (hf : Bts w a bs) (hl : bs.length ≤ 1048576) : Calls Try.prog 34 #[.slice a bs.length cap] w fun e w' => ∃ B L, e = .returned (.slice (some ⟨B, 0, none⟩) bs.length bs.length) ∧ (w.heap.size ≤ B ∧ B < w'.heap.size) ∧ L.length = bs.length * 6 ∧ Box w' B L ∧ (∀ i, i < bs.length → BIn L (i * 6) (bx bs i)) ∧ Ext w w' := by
  have HF := Lib.hid hf
  have hm : bs.length ≤ 1000000000 := by omega
  clear hf hl
  obtain ⟨i0, hi, hz0, hz1, hz2⟩ := info_parts boatInfo
  go_enter Try.func34, Try.ntmps34
  go_wp2_with (at_make; refine wpList_make_full _ rfl _ _ 26 rfl w.heap.size 41 i0 (.agg #[.int .i64 0, .int .i64 0, .int .i64 0, .int .i64 0, .int .i64 0, .bool false]) 6 Try.underlying26 hi hz0 hz1 _ _ _ _ bs.length rfl rfl rfl rfl (by rw [hz2]; omega) (by unfold maxLen; omega) (Nat.le_refl _) ?_; intro w1 hown hgrow)
  have HO := Lib.hid (made6 hown)
  have HG := Lib.hid (grown_none6 hgrow)
  have HLT := Lib.hid (World.ownsRow.lt hown w.heap.size rfl).2
  clear hown hgrow
  go_loopw [4] (fun i wr => RelT6 w bs i wr ∧ w1.heap.size ≤ wr.heap.size) (fun i _ => bs.length - (intOf i).toNat)
  case atStart => exact ⟨⟨0, _, rfl, Nat.zero_le _, by simp [size_madeCells], HO.out, fun j hj => absurd hj (by omega), HG.out⟩, Nat.le_refl _⟩
  case round =>
    obtain ⟨⟨k, L, rfl, hk, hL, hc, hd, hx⟩, hsz⟩ := hrel
    have HC := Lib.hid hc
    have HD := Lib.hid hd
    have HX := Lib.hid hx
    have HL := Lib.hid hL
    clear hc hd hx hL
    by_cases hk1 : k < bs.length
    · obtain ⟨b, off, rfl, hb⟩ := HF.out.row (by omega)
      obtain ⟨c0, c1, c2, c3, c4, c5⟩ := ((hb k hk1).ext HX.out).six
      clear hb
      go_wp2_with fail
      refine (toBoat_any _ _ _ _ _ _ _).mono ?_
      rintro e w2 ⟨rfl, hy⟩
      have HB2 := Lib.hid (HC.out.ext hy)
      obtain ⟨⟨v0, d0⟩, f0⟩ := Box.at6 HB2.out (o := k * 6) (by have := HL.out; omega) 0 (by omega)
      obtain ⟨⟨v1, d1⟩, f1⟩ := Box.at6 HB2.out (o := k * 6) (by have := HL.out; omega) 1 (by omega)
      obtain ⟨⟨v2, d2⟩, f2⟩ := Box.at6 HB2.out (o := k * 6) (by have := HL.out; omega) 2 (by omega)
      obtain ⟨⟨v3, d3⟩, f3⟩ := Box.at6 HB2.out (o := k * 6) (by have := HL.out; omega) 3 (by omega)
      obtain ⟨⟨v4, d4⟩, f4⟩ := Box.at6 HB2.out (o := k * 6) (by have := HL.out; omega) 4 (by omega)
      obtain ⟨⟨v5, d5⟩, f5⟩ := Box.at6 HB2.out (o := k * 6) (by have := HL.out; omega) 5 (by omega)
      rw [Nat.add_zero] at d0 f0
      have HY := Lib.hid (HX.out.trans hy)
      replace hsz := Nat.le_trans hsz (Ext.size hy)
      clear hy c0 c1 c2 c3 c4 c5
      go_wp2
      go_roundw
      case rel => exact ⟨RelT6.step hk1 HL.out HB2.out HD.out HY.out, by simpa using hsz⟩
      case measure => simp [intOf]; omega
    · obtain rfl : k = bs.length := by omega
      go_wp2
      go_ret
      exact ⟨w.heap.size, L, rfl, ⟨Nat.le_refl _, Nat.lt_of_lt_of_le HLT.out hsz⟩, HL.out, HC.out, HD.out, HX.out⟩

set_option maxRecDepth 100000 in
set_option maxHeartbeats 4000000 in
theorem walk (x y : Int) (a : Option Addr) (cap : Nat) (bs : List B6) (w : World) (hf1 : Bts w a bs) : Calls Try.prog 8 #[Pt x y, .slice a bs.length cap] w fun e w' => e = .returned (.bool true) ∧ Ext w w' := by
  have HF1 := Lib.hid hf1
  have HM1 := Lib.hid hf1.1
  clear hf1
  have KS := Lib.hid (fun (a : Option Addr) (cap : Nat) (w : World) (hf : Bts w a bs) => table_spec x y a cap bs w hf)
  have KI := Lib.hid (fun (a : Option Addr) (cap : Nat) (w : World) (hf : Bts w a bs) => table_impl x y a cap bs w hf)
  obtain ⟨ck, hck⟩ : ∃ ck, ck = kcC x y bs := ⟨_, rfl⟩
  obtain ⟨cs, hcs⟩ : ∃ cs, cs = kcT x y bs := ⟨_, rfl⟩
  have hsm := kcT_sm x y bs
  rw [← hcs] at hsm
  rw [← hck, ← hcs] at KS KI
  have S1 := Lib.hid (show Sm 100 cs from ⟨by have := hsm.1; omega, fun i hi => by have := hsm.2 i hi; omega⟩)
  have S2 := Lib.hid (show Sm 1000 cs from ⟨by have := hsm.1; omega, fun i hi => by have := hsm.2 i hi; omega⟩)
  have hsum := sumZ_bd hsm cs.length (Nat.le_refl _)
  have HP0 := hsum.1
  clear hck hcs hsm hsum
  obtain ⟨W0, hW0⟩ : ∃ W0, W0 = w.alloc (.cells #[.int .i64 x, .int .i64 y] 57) := ⟨_, rfl⟩
  have hX : Ext w W0 := hW0 ▸ ((Ext.refl w).alloc _)
  have hs0 : W0.heap.size = w.heap.size + 1 := by rw [hW0]; simp
  have e00 : ∀ w', (Ext W0) w' → w'.cell? ⟨w.heap.size, 0, none⟩ = some (.int .i64 x) := fun w' h => h.cellOf (by rw [hW0]; exact boxed 0 rfl (by simp))
  have e01 : ∀ w', (Ext W0) w' → w'.cell? ⟨w.heap.size, 1, none⟩ = some (.int .i64 y) := fun w' h => h.cellOf (by rw [hW0]; exact boxed 1 rfl (by simp))
  have hr0 := Ext.refl W0
  go_enter Try.func8, Try.ntmps8
  go_wp2_with fail
  refine (szBoatS_any _ _ _ _ _ HM1.out (by omega) (by omega)).mono ?_
  rintro e z1 ⟨rfl, hz⟩
  rw [← hW0] at hz
  clear hW0 hr0
  replace hz : Ext W0 z1 := hz ▸ Ext.refl W0
  by_cases hl1 : (1048576 : Int) - bs.length < 0
  · rw [szB_neg hl1]
    go_wp2
    go_ret
    exact ⟨rfl, hX.trans hz⟩
  have hl1b : decide ((1048576 : Int) - bs.length < 0) = false := decide_eq_false hl1
  have HL1 := Lib.hid (show bs.length ≤ 1048576 by omega)
  rw [szB_pos hl1]
  have TT1 := Lib.hid (fun w' (h : Ext w w') => toBoatS_lt a cap bs w' (HF1.out.ext h) HL1.out)
  go_wp2_with fail
  have hHeld := hz
  go_wp2_with fail
  refine (toWind_any _ _ _).mono ?_
  rintro e w1 ⟨rfl, hy⟩
  have hPrev := hHeld
  replace hHeld := hHeld.trans hy
  (try replace R1 := Bts.ext R1 hy)
  clear hPrev
  go_wp2_with fail
  refine (TT1.out _ (hX.trans hHeld)).mono ?_
  rintro e w1 ⟨B1, L1, rfl, -, -, Q1, J1, hy⟩
  have hPrev := hHeld
  replace hHeld := hHeld.trans hy
  have R1 := bts_of Q1 J1 HM1.out
  clear hPrev
  go_wp2_with fail
  refine (KS.out _ _ _ R1).mono ?_
  rintro e z2 ⟨v0, vs0, rfl, O0, hy⟩
  have hPrev := hHeld
  replace hHeld := hHeld.trans hy
  obtain ⟨a0, cap0, rfl⟩ := O0.val
  clear hPrev
  have X := Lib.hid (show Ext W0 z2 from hHeld)
  clear hHeld R1 hz
  replace e00 : ∀ w', Ext z2 w' → w'.cell? ⟨w.heap.size, 0, none⟩ = some (.int .i64 x) := fun w' h => e00 w' (X.out.trans h)
  replace e01 : ∀ w', Ext z2 w' → w'.cell? ⟨w.heap.size, 1, none⟩ = some (.int .i64 y) := fun w' h => e01 w' (X.out.trans h)
  have F0 := Lib.hid O0
  have u0 := e00 z2 (Ext.refl z2)
  have u1 := e01 z2 (Ext.refl z2)
  clear O0 Q1 J1 hy
  go_wp2_with fail
  refine (toBoatS_lt a cap bs _ (HF1.out.ext (hX.trans X.out)) HL1.out).mono ?_
  rintro e y1 ⟨C1, L1, rfl, hC1, hL1, P1, J1, hy⟩
  replace P1 := Lib.hid P1
  have J := Lib.hid J1
  have EX := Lib.hid hy
  have f00 : ∀ w', Ext y1 w' → w'.cell? ⟨w.heap.size, 0, none⟩ = some (.int .i64 x) := fun w' h => e00 w' (EX.out.trans h)
  have f01 : ∀ w', Ext y1 w' → w'.cell? ⟨w.heap.size, 1, none⟩ = some (.int .i64 y) := fun w' h => e01 w' (EX.out.trans h)
  clear hy J1
  go_upto_region 7 with fail
  have hv1 := Ext.refl y1
  have hHeld := Ext.refl y1
  go_wp2_with fail
  refine (toWind_any _ _ _).mono ?_
  rintro e w1 ⟨rfl, hy⟩
  have hPrev := hHeld
  replace hHeld := hHeld.trans hy
  clear hPrev
  go_wp2_with fail
  refine (KI.out _ _ _ (bts_of (P1.out.ext hHeld) J.out HM1.out)).mono ?_
  rintro e z3 ⟨v1, vs1, rfl, O1, hy⟩
  have hPrev := hHeld
  replace hHeld := hHeld.trans hy
  obtain ⟨a1, cap1, rfl⟩ := O1.val
  replace O1 := OwnG.mono (c := y1.heap.size) O1 (Ext.size hPrev)
  clear hPrev
  have h3 : Ext y1 z3 := hHeld
  replace P1 := Lib.hid (P1.out.ext h3)
  replace EX := Lib.hid (EX.out.trans h3)
  replace O1 := Lib.hid O1
  clear hHeld hy hv1
  go_wp2_with fail
  refine (eqInt64SS_same _ _ _ _ _ _ _ _ _ _ O1.out (F0.out.ext EX.out) S2.out).mono ?_
  rintro e z4 ⟨rfl, h⟩
  replace h3 : Ext y1 z4 := h3.trans h
  replace P1 := Lib.hid (P1.out.ext h)
  replace EX := Lib.hid (EX.out.trans h)
  replace O1 := Lib.hid (O1.out.ext h)
  clear h
  replace f00 : ∀ w', Ext z4 w' → w'.cell? ⟨w.heap.size, 0, none⟩ = some (.int .i64 x) := fun w' h => f00 w' (h3.trans h)
  replace f01 : ∀ w', Ext z4 w' → w'.cell? ⟨w.heap.size, 1, none⟩ = some (.int .i64 y) := fun w' h => f01 w' (h3.trans h)
  go_upto_region 10 with fail
  have hHeld := Ext.refl z4
  go_wp2_with fail
  refine (toBoatS_lt a cap bs _ (HF1.out.ext (hX.trans (X.out.trans (EX.out.trans hHeld)))) HL1.out).mono ?_
  rintro e w1 ⟨B1, L2, rfl, -, -, Q1, J1, hy⟩
  have hPrev := hHeld
  replace hHeld := hHeld.trans hy
  clear hPrev
  go_wp2_with fail
  refine (eqBoatS_same _ _ _ _ _ _ (bts_of (P1.out.ext hHeld) J.out HM1.out) (bts_of Q1 J1 HM1.out)).mono ?_
  rintro e z5 ⟨rfl, hy⟩
  have hPrev := hHeld
  replace hHeld := hHeld.trans hy
  clear hPrev
  have h : Ext z4 z5 := hHeld
  have t0 := f00 z5 h
  have t1 := f01 z5 h
  replace P1 := Lib.hid (P1.out.ext h)
  replace EX := Lib.hid (EX.out.trans h)
  replace O1 := Lib.hid (O1.out.ext h)
  clear h hHeld hy Q1 J1 f00 f01 e00 e01
  have zn : decide ((1 : Int) + 6 * (bs.length : Int) < 0) = false := decide_eq_false (by omega)
  have hs2 := Ext.size X.out
  go_wp2_with fail
  refine (markBoatS_any C1 _ bs.length 1 L1 _ hL1 P1.out HL1.out (by decide) (by decide)).mono ?_
  rintro e z6 ⟨rfl, h⟩
  replace t0 := h.cellOf (by simp; omega) t0
  replace t1 := h.cellOf (by simp; omega) t1
  replace EX := Lib.hid (h.ext EX.out hC1.1)
  replace O1 := Lib.hid (O1.out.chg h hC1.2)
  clear h P1
  go_wp2_with fail
  refine (eqInt64SS_same _ _ _ _ _ _ _ _ _ _ O1.out (F0.out.ext EX.out) S2.out).mono ?_
  rintro e z7 ⟨rfl, h⟩
  replace t0 := h.cellOf t0
  replace t1 := h.cellOf t1
  replace EX := Lib.hid (EX.out.trans h)
  replace O1 := Lib.hid (O1.out.ext h)
  clear h
  have zg : decide ((1 : Int) + sumZ cs cs.length < 0) = false := decide_eq_false (by omega)
  go_wp2_with fail
  refine (markInt64SS_any _ _ y1.heap.size cs _ 1 _ O1.out S1.out (by decide) (by decide)).mono ?_
  rintro e z8 ⟨rfl, HH1, HH2, h⟩
  have hs3 := Ext.size EX.out
  have E8 := h _ EX.out (by omega)
  replace EX := Lib.hid E8
  replace t0 := EX.out.cellOf u0
  replace t1 := EX.out.cellOf u1
  have HH := Lib.hid (And.intro HH1 HH2)
  clear h O1 HH1 HH2
  go_wp2_with fail
  refine (heldInt64SS_any _ _ cs _ 1 _ HH.out.1 HH.out.2 S1.out (by decide) (by decide)).mono ?_
  rintro e z9 ⟨rfl, rfl⟩
  have e00 : ∀ w', Ext z8 w' → w'.cell? ⟨w.heap.size, 0, none⟩ = some (.int .i64 x) := fun w' h => h.cellOf t0
  have e01 : ∀ w', Ext z8 w' → w'.cell? ⟨w.heap.size, 1, none⟩ = some (.int .i64 y) := fun w' h => h.cellOf t1
  clear t0 t1
  have hr8 := Ext.refl z8
  go_upto_region 24 with fail
  have hHeld := Ext.refl z8
  go_wp2_with fail
  refine (toWind_any _ _ _).mono ?_
  rintro e w1 ⟨rfl, hy⟩
  have hPrev := hHeld
  replace hHeld := hHeld.trans hy
  (try replace R1 := Bts.ext R1 hy)
  clear hPrev
  go_wp2_with fail
  refine (toBoatS_lt a cap bs _ (HF1.out.ext (hX.trans (X.out.trans (EX.out.trans hHeld)))) HL1.out).mono ?_
  rintro e w1 ⟨B1, L2, rfl, -, -, Q1, J1, hy⟩
  have hPrev := hHeld
  replace hHeld := hHeld.trans hy
  have R1 := bts_of Q1 J1 HM1.out
  clear hPrev
  go_wp2_with fail
  refine (KI.out _ _ _ R1).mono ?_
  rintro e z10 ⟨v2, vs2, rfl, O2, hy⟩
  have hPrev := hHeld
  replace hHeld := hHeld.trans hy
  obtain ⟨a2, cap2, rfl⟩ := O2.val
  clear hPrev
  have h : Ext z8 z10 := hHeld
  replace EX := Lib.hid (EX.out.trans h)
  replace HH := Lib.hid (And.intro (HH.out.1.ext h) (HH.out.2.ext h))
  clear h hHeld hy e00 e01 R1 Q1 hr8
  go_wp2_with fail
  refine (eqInt64SS_same _ _ _ _ _ _ _ _ _ _ O2 (F0.out.ext EX.out) S2.out).mono ?_
  rintro e z11 ⟨rfl, h⟩
  replace EX := Lib.hid (EX.out.trans h)
  replace HH := Lib.hid (And.intro (HH.out.1.ext h) (HH.out.2.ext h))
  clear h O2
  go_wp2_with fail
  refine (heldInt64SS_any _ _ cs _ 1 _ HH.out.1 HH.out.2 S1.out (by decide) (by decide)).mono ?_
  rintro e z12 ⟨rfl, rfl⟩
  go_wp2
  go_ret
  exact ⟨rfl, hX.trans (X.out.trans EX.out)⟩

end Go.Proofs.Ytcangdcakgcpaaa.fnExactKeepClearTable
