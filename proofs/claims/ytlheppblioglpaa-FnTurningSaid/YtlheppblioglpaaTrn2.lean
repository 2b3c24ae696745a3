/- TurningAt of both (chapter 10). -/
import Derived.Test.YtlheppblioglpaaTrn
namespace Go.Proofs.Ytlheppblioglpaa.Trn
open Go.ChangeShapes Go.WideShapes Go.ChangeAt Go.RowKit
open Go.Proofs.Ytlheppblioglpaa.Num Go.Proofs.Ytlheppblioglpaa.Kit Go.Proofs.Ytlheppblioglpaa.Pts Go.Proofs.Ytlheppblioglpaa.Seg Go.Proofs.Ytlheppblioglpaa.Gcd Go.Proofs.Ytlheppblioglpaa.Wnd
open Go.Proofs.Ytlheppblioglpaa.Mnv (M2 Mxs OwnM px PAt RelE)
open Go.Proofs.Ytlheppblioglpaa.Trk (F3 Fxs Tr trB fx trB_yes trackValid_any isTrack_spec lastsAt_any lasts_spec lastB leg_bounds)
set_option linter.unusedVariables false
set_option linter.unusedSimpArgs false

theorem ret_bi {a b : Int} {c d : Bool} (g : d = c) (h : b = a) : Ending.returned (.tuple #[.bool c, .int .i64 a]) = .returned (.tuple #[.bool d, .int .i64 b]) := by rw [h, g]
set_option maxRecDepth 100000 in
set_option maxHeartbeats 2000000 in
theorem turningAt_impl (x y : Int) (a : Option Addr) (cap : Nat) (fs : List F3) (t s : Int) (w : World) (hf : Fxs w a fs) (hl : fs.length ≤ 1048576) :
    Calls Try.prog 17 #[Pt x y, Tr (.slice a fs.length cap), .int .i64 t, .int .i64 s] w fun e w' => e = .returned (.tuple #[.bool (tuB x y fs t s), .int .i64 (tuC x y fs t s)]) ∧ Ext w w' := by
  have HF := Lib.hid hf
  have HL := Lib.hid hl
  clear hf hl
  obtain ⟨W0, hW0⟩ : ∃ W0, W0 = (((w.alloc (.cells #[.int .i64 x, .int .i64 y] 25)).alloc (.cells #[.slice a fs.length cap] 46)).alloc (.cells #[.int .i64 t] 2)).alloc (.cells #[.int .i64 s] 2) := ⟨_, rfl⟩
  have hX : Ext w W0 := hW0 ▸ (((((Ext.refl w).alloc _).alloc _).alloc _).alloc _)
  have hs0 : W0.heap.size = w.heap.size + 1 + 1 + 1 + 1 := by rw [hW0]; simp
  have e00 : ∀ w', (Ext W0) w' → w'.cell? ⟨w.heap.size, 0, none⟩ = some (.int .i64 x) := fun w' h => h.cellOf (by rw [hW0]; exact ((((Ext.refl _).alloc _).alloc _).alloc _).cellOf (boxed 0 rfl (by simp)))
  have e01 : ∀ w', (Ext W0) w' → w'.cell? ⟨w.heap.size, 1, none⟩ = some (.int .i64 y) := fun w' h => h.cellOf (by rw [hW0]; exact ((((Ext.refl _).alloc _).alloc _).alloc _).cellOf (boxed 1 rfl (by simp)))
  have e10 : ∀ w', (Ext W0) w' → w'.cell? ⟨w.heap.size + 1, 0, none⟩ = some (.slice a fs.length cap) := fun w' h => h.cellOf (by rw [hW0]; exact (((Ext.refl _).alloc _).alloc _).cellOf (boxed 0 rfl (by simp)))
  have e20 : ∀ w', (Ext W0) w' → w'.cell? ⟨w.heap.size + 1 + 1, 0, none⟩ = some (.int .i64 t) := fun w' h => h.cellOf (by rw [hW0]; exact ((Ext.refl _).alloc _).cellOf (boxed 0 rfl (by simp)))
  have e30 : ∀ w', (Ext W0) w' → w'.cell? ⟨w.heap.size + 1 + 1 + 1, 0, none⟩ = some (.int .i64 s) := fun w' h => h.cellOf (by rw [hW0]; exact boxed 0 rfl (by simp))
  have KM := Lib.hid (manoeuvresOf_impl x y a cap fs W0 (HF.out.ext hX))
  have HM := Lib.hid (moL_len x y fs HL.out)
  go_enter Try.func17, Try.ntmps17
  go_wp2_with fail
  rw [← hW0]
  clear hW0
  refine KM.out.mono ?_
  rintro e w1 ⟨v, rfl, hO, hz⟩
  replace hz : Ext W0 w1 := hz
  by_cases hc : moC x y fs = 0
  · obtain ⟨hw, hv⟩ := mo_ok hc
    have HMO := Lib.hid (mo_yes hw hv).2
    have l2 := (trB_yes hv).1.1
    obtain ⟨g, gc, rfl, hP⟩ := hO.mxs (by unfold maxLen; have := HM.out; omega)
    have HP := Lib.hid hP
    have C := Lib.hid (show Cap w1 (w.heap.size + 1) (w.heap.size + 1 + 1) (w.heap.size + 1 + 1 + 1) a cap fs t s from ⟨e10 w1 hz, e20 w1 hz, e30 w1 hz, HF.out.ext (hX.trans hz)⟩)
    have HU0 := Lib.hid (fun g => tu_out (s := s) (t := t) hc g)
    have HU1 := Lib.hid (fun g f => tu_span (s := s) (t := t) hc g f)
    have HU2 := Lib.hid (fun g f => tu_yes (s := s) (t := t) hc g f)
    rw [hc]
    clear hP hO hc
    have g1 := C.out.tr
    have g2 := C.out.tm
    go_wp2_with fail
    refine (lastsAt_any _ _ _ _ _ C.out.fx (by omega)).mono ?_
    rintro e w2 ⟨rfl, hy⟩
    replace C := Lib.hid (C.out.ext hy)
    replace HP := Lib.hid (HP.out.ext hy)
    replace hz := hz.trans hy
    clear hy g1 g2
    cases h1 : lastB fs t
    · have HU := Lib.hid (HU0.out h1)
      go_wp2
      go_ret2
      exact ⟨ret_bi HU.out.2 HU.out.1, hX.trans hz⟩
    have g3 := C.out.sp
    go_wp2_with fail
    refine (isSpan_any _ _).mono ?_
    rintro e w3 ⟨rfl, rfl⟩
    cases h2 : inB s 0 60000
    · have HU := Lib.hid (HU1.out h1 h2)
      go_wp2
      go_ret2
      exact ⟨ret_bi HU.out.2 HU.out.1, hX.trans hz⟩
    have HU := Lib.hid (HU2.out h1 h2)
    have PC := Lib.hid (containsMn_any (w.heap.size + 1) (w.heap.size + 1 + 1) (w.heap.size + 1 + 1 + 1) a cap fs t s g gc (moL x y fs) w2 C.out HP.out (fun i hi => by
      rw [HMO.out] at hi ⊢
      obtain ⟨k, ek, k1, k2⟩ := mn_fix x y fs _ i hi
      exact ⟨k, ek, by omega⟩) hv (last_bd hv h1))
    rw [HMO.out] at PC
    rw [HMO.out]
    go_wp2_with fail
    refine PC.out.mono ?_
    rintro e w4 ⟨rfl, hy⟩
    go_wp2
    go_ret2
    exact ⟨ret_bi HU.out.2 HU.out.1, hX.trans (hz.trans hy)⟩
  · have HU := Lib.hid (tu_bad (t := t) (s := s) hc)
    have he : moC x y fs = 1 := by
      unfold moC at hc ⊢
      split
      · rename_i h; rw [if_pos h] at hc; exact absurd rfl hc
      · rfl
    rw [he]
    clear he hc KM HM hO
    go_wp2
    go_ret2
    exact ⟨ret_bi HU.out.2 HU.out.1, hX.trans hz⟩

def RelTs (W : World) (base : Nat) (v : Value) (fs : List F3) (t s : Int) (ps : List M2) (i : Value) (wr : World) : Prop := ∃ k : Nat, i = .int .i64 k ∧ k ≤ ps.length ∧ (∀ j, j < k → nrB fs t s (px ps j) = false) ∧ Ext W wr

set_option maxRecDepth 100000 in
set_option maxHeartbeats 2000000 in
theorem turning_spec (x y : Int) (a : Option Addr) (cap : Nat) (fs : List F3) (t s : Int) (w : World) (hf : Fxs w a fs) (hw : wdB x y = true) (hv : trB fs = true) (ht : 0 ≤ t ∧ t ≤ 1000000000) :
    Calls Try.prog 63 #[Pt x y, Tr (.slice a fs.length cap), .int .i64 t, .int .i64 s] w fun e w' => e = .returned (.bool (tnB fs t s (mnL x y fs (fs.length - 2)))) ∧ Ext w w' := by
  have HF := Lib.hid hf
  clear hf
  obtain ⟨⟨l2, l40⟩, _⟩ := trB_yes hv
  have hmx := mn_fix x y fs (fs.length - 2)
  have HK := Lib.hid (show ∀ i, i < (mnL x y fs (fs.length - 2)).length → ∃ k : Nat, (px (mnL x y fs (fs.length - 2)) i).x = k ∧ k < fs.length from fun i hi => by
    obtain ⟨k, ek, k1, k2⟩ := hmx i hi
    exact ⟨k, ek, by omega⟩)
  have hlen := mnL_len x y fs (fs.length - 2)
  have HT := Lib.hid (fun k (hk : k < fs.length) => fx_time hv hk)
  obtain ⟨W0, hW0⟩ : ∃ W0, W0 = (w.alloc (.cells #[.int .i64 x, .int .i64 y] 25)).alloc (.cells #[.slice a fs.length cap] 46) := ⟨_, rfl⟩
  have hX : Ext w W0 := hW0 ▸ (((Ext.refl w).alloc _).alloc _)
  have hs0 : W0.heap.size = w.heap.size + 1 + 1 := by rw [hW0]; simp
  have e00 : ∀ w', (Ext W0) w' → w'.cell? ⟨w.heap.size, 0, none⟩ = some (.int .i64 x) := fun w' h => h.cellOf (by rw [hW0]; exact ((Ext.refl _).alloc _).cellOf (boxed 0 rfl (by simp)))
  have e01 : ∀ w', (Ext W0) w' → w'.cell? ⟨w.heap.size, 1, none⟩ = some (.int .i64 y) := fun w' h => h.cellOf (by rw [hW0]; exact ((Ext.refl _).alloc _).cellOf (boxed 1 rfl (by simp)))
  have e10 : ∀ w', (Ext W0) w' → w'.cell? ⟨w.heap.size + 1, 0, none⟩ = some (.slice a fs.length cap) := fun w' h => h.cellOf (by rw [hW0]; exact boxed 0 rfl (by simp))
  have KM := Lib.hid (manoeuvres_spec x y a cap fs W0 (HF.out.ext hX) hv hw)
  generalize mnL x y fs (fs.length - 2) = ps at *
  clear hmx hv hw
  go_enter Try.func63, Try.ntmps63
  go_wp2_with fail
  rw [← hW0]
  clear hW0
  refine KM.out.mono ?_
  rintro e w1 ⟨v, rfl, hO, hz⟩
  replace hz : Ext W0 w1 := hz
  obtain ⟨g, gc, rfl, hP⟩ := hO.mxs (by unfold maxLen; omega)
  have HP := Lib.hid hP
  clear hP hO KM
  go_wp2
  go_loopw [10] (fun i wr => RelTs w1 0 (.slice g ps.length gc) fs t s ps i wr) (fun i _ => ps.length - (intOf i).toNat)
  case atStart => exact ⟨0, rfl, Nat.zero_le _, fun j hj => absurd hj (by omega), Ext.refl _⟩
  case round =>
    obtain ⟨j, rfl, hj, hd, hx⟩ := hrel
    have HD := Lib.hid hd
    have HX := Lib.hid hx
    clear hd hx
    have i0 : (0 : Int) ≤ (j : Int) := by omega
    have T7 : IntKind.i64.wrap ((j : Int) + 1) = (j : Int) + 1 := IntWalk.i64_in _ (by omega)
    by_cases hj1 : j < ps.length
    · obtain ⟨b, off, rfl, hb⟩ := HP.out.row (by omega)
      have hb0 := (hb j hj1).ext HX.out
      obtain ⟨k, ek, hk⟩ := HK.out j hj1
      obtain ⟨u0, u1⟩ := HT.out k hk
      have i1 : (j : Int) < (ps.length : Int) := by omega
      have j0 : (0 : Int) ≤ (k : Int) := by omega
      have j1 : (k : Int) < (fs.length : Int) := by omega
      obtain ⟨bb, of2, rfl, hc⟩ : ∃ bb off, a = some ⟨bb, off, none⟩ ∧ ∀ i, i < fs.length → w.cell? ⟨bb, off + i * 3, none⟩ = some (.int .i64 (fx fs i).t) := by
        rcases HF.out.2 with h | ⟨bb, off, h, h2⟩
        · rw [h] at hk; simp at hk
        · exact ⟨bb, off, h, fun i hi => (h2 i hi).1⟩
      have HN := Lib.hid (show nrB fs t s (px ps j) = decide (ab ((fx fs k).t - t) ≤ s) by unfold nrB; rw [ek]; simp)
      have c0 : ∀ w', Ext wr w' → w'.cell? ⟨bb, of2 + k * 3, none⟩ = some (.int .i64 (fx fs k).t) := fun w' h => (hX.trans (hz.trans (HX.out.trans h))).cellOf (hc k hk)
      have c1 : ∀ w', Ext wr w' → w'.cell? ⟨b, off + j * 2, none⟩ = some (.int .i64 k) := fun w' h => by have := (hb0.ext h).1; rw [ek] at this; exact this
      have c2 : ∀ w', Ext wr w' → w'.cell? ⟨w.heap.size + 1, 0, none⟩ = some (.slice (some ⟨bb, of2, none⟩) fs.length cap) := fun w' h => e10 w' (hz.trans (HX.out.trans h))
      clear hb hb0 hc ek
      generalize (fx fs k).t = u at *
      have T0 : IntKind.i64.wrap (u - t) = u - t := IntWalk.i64_in _ (by omega)
      have PA := Lib.hid (fun w => absS_any (u - t) w (by omega) (by omega))
      generalize ab (u - t) = z at *
      have hr := Ext.refl wr
      go_wp2_with fail
      refine wp_region_held_drew (S := (fun w' => Ext wr w')) (by kernel_rfl) (by (try dsimp only); first | go_keep | exact (Ext.refl _).drew | exact Res.new2.drew | exact Res.new4.drew | exact ResB.drew (by assumption) | exact ResC.drew (by assumption) | assumption | exact Ext.drew (by assumption) | exact Res.drew (by assumption)) (fun hHeld => ?_)
      refine Ord.K 0 20 ?_
      refine Ord.K 1 21 ?_
      refine Ord.K 2 22 ?_
      refine Ord.K 3 23 ?_
      refine Ord.K 4 24 ?_
      refine Ord.K 5 25 ?_
      refine Ord.K 6 26 ?_
      refine Ord.K 7 27 ?_
      refine Ord.K 8 28 ?_
      refine Ord.K 9 29 ?_
      refine Ord.K 10 30 ?_
      refine Ord.K 11 31 ?_
      refine Ord.K 13 33 ?_
      (refine wpAnyH_ready (rs := [12]) (by kernel_rfl) (by simp) ?_; refine AllReadyH.cons rfl (fun K hK => ?_) AllReadyH.nil; go_simp; (go_at_call 96; refine (PA.out _).mono ?_; rintro e w2 ⟨rfl, rfl⟩); go_wp2_with fail; (refine hK.out _ _ (by first | assumption | exact Ext.trans (by assumption) hy | exact Res.ext (by assumption) hy | exact ResB.ext (by assumption) hy | exact ResC.ext (by assumption) hy | (go_split_ands; (repeat' apply And.intro) <;> exact Ext.cellOf hy (by assumption))) (fun hHeld => ?_)); clear hK K; (try simp only [Act.put, Ord.a, Ord.b, Ord.c]))
      refine Ord.K 14 34 ?_
      refine wpAnyH_done (by kernel_rfl) ?_ _
      have HY := Lib.hid (HX.out.trans hHeld)
      cases hle : decide (z ≤ s)
      · have H := Lib.hid (HN.out.trans hle)
        have hle2 : ¬ z ≤ s := by simpa using hle
        go_wp2
        go_roundw
        case rel => exact ⟨j + 1, by go_num, by omega, fun x hx => by rcases Nat.lt_or_ge x j with g | g; exact HD.out x g; exact (show x = j by omega) ▸ H.out, HY.out⟩
        case measure => simp [intOf]; omega
      · have H := Lib.hid (tn_yes hj1 (HN.out.trans hle))
        have hle2 : z ≤ s := by simpa using hle
        go_wp2
        go_ret
        exact ⟨ret_bool H.out, hX.trans (hz.trans HY.out)⟩
    · obtain rfl : j = ps.length := by omega
      have H := Lib.hid (tn_no HD.out)
      go_wp2
      go_ret
      exact ⟨ret_bool H.out, hX.trans (hz.trans HX.out)⟩

set_option maxRecDepth 100000 in
set_option maxHeartbeats 2000000 in
theorem turningAt_spec (x y : Int) (a : Option Addr) (cap : Nat) (fs : List F3) (t s : Int) (w : World) (hf : Fxs w a fs) :
    Calls Try.prog 18 #[Pt x y, Tr (.slice a fs.length cap), .int .i64 t, .int .i64 s] w fun e w' => e = .returned (.tuple #[.bool (tuB x y fs t s), .int .i64 (tuC x y fs t s)]) ∧ Ext w w' := by
  have HF := Lib.hid hf
  clear hf
  obtain ⟨W0, hW0⟩ : ∃ W0, W0 = (w.alloc (.cells #[.int .i64 x, .int .i64 y] 25)).alloc (.cells #[.slice a fs.length cap] 46) := ⟨_, rfl⟩
  have hX : Ext w W0 := hW0 ▸ (((Ext.refl w).alloc _).alloc _)
  have hs0 : W0.heap.size = w.heap.size + 1 + 1 := by rw [hW0]; simp
  have e00 : ∀ w', (Ext W0) w' → w'.cell? ⟨w.heap.size, 0, none⟩ = some (.int .i64 x) := fun w' h => h.cellOf (by rw [hW0]; exact ((Ext.refl _).alloc _).cellOf (boxed 0 rfl (by simp)))
  have e01 : ∀ w', (Ext W0) w' → w'.cell? ⟨w.heap.size, 1, none⟩ = some (.int .i64 y) := fun w' h => h.cellOf (by rw [hW0]; exact ((Ext.refl _).alloc _).cellOf (boxed 1 rfl (by simp)))
  have e10 : ∀ w', (Ext W0) w' → w'.cell? ⟨w.heap.size + 1, 0, none⟩ = some (.slice a fs.length cap) := fun w' h => h.cellOf (by rw [hW0]; exact boxed 0 rfl (by simp))
  go_enter Try.func18, Try.ntmps18
  go_wp2_with fail
  rw [← hW0]
  clear hW0
  refine (isWind_spec _ _ _).mono ?_
  rintro e w1 ⟨rfl, hz⟩
  replace hz : Ext W0 w1 := hz
  cases h1 : wdB x y
  · have HU := Lib.hid (tu_bad (t := t) (s := s) (show moC x y fs ≠ 0 by rw [(mo_no1 h1).1]; decide))
    go_wp2
    go_ret2
    exact ⟨ret_bi HU.out.2 HU.out.1, hX.trans hz⟩
  have g10 := e10 w1 hz
  go_wp2_with fail
  refine (isTrack_spec _ _ _ _ (HF.out.ext (hX.trans hz))).mono ?_
  rintro e w2 ⟨rfl, hy⟩
  replace hz := hz.trans hy
  clear hy g10
  cases h2 : trB fs
  · have HU := Lib.hid (tu_bad (t := t) (s := s) (show moC x y fs ≠ 0 by rw [(mo_no2 h2).1]; decide))
    go_wp2
    go_ret2
    exact ⟨ret_bi HU.out.2 HU.out.1, hX.trans hz⟩
  have hc := (mo_yes h1 h2).1
  have l2 := (trB_yes h2).1.1
  have HU0 := Lib.hid (fun g => tu_out (s := s) (t := t) hc g)
  have HU1 := Lib.hid (fun g f => tu_span (s := s) (t := t) hc g f)
  have HU2 := Lib.hid (fun g f => tu_yes (s := s) (t := t) hc g f)
  clear hc
  have g10 := e10 w2 hz
  go_wp2_with fail
  refine (lasts_spec _ _ _ _ _ (HF.out.ext (hX.trans hz)) (by omega)).mono ?_
  rintro e w3 ⟨rfl, hy⟩
  replace hz := hz.trans hy
  clear hy g10
  cases h3 : lastB fs t
  · have HU := Lib.hid (HU0.out h3)
    go_wp2
    go_ret2
    exact ⟨ret_bi HU.out.2 HU.out.1, hX.trans hz⟩
  go_wp2_with fail
  refine (in_any _ _ _ _).mono ?_
  rintro e w4 ⟨rfl, rfl⟩
  cases h4 : inB s 0 60000
  · have HU := Lib.hid (HU1.out h3 h4)
    go_wp2
    go_ret2
    exact ⟨ret_bi HU.out.2 HU.out.1, hX.trans hz⟩
  have HU := Lib.hid (HU2.out h3 h4)
  have PT := Lib.hid (turning_spec x y a cap fs t s w3 (HF.out.ext (hX.trans hz)) h1 h2 (last_bd h2 h3))
  have g00 := e00 w3 hz; have g01 := e01 w3 hz; have g10 := e10 w3 hz
  go_wp2_with fail
  refine PT.out.mono ?_
  rintro e w5 ⟨rfl, hy⟩
  go_wp2
  go_ret2
  exact ⟨ret_bi HU.out.2 HU.out.1, hX.trans (hz.trans hy)⟩

end Go.Proofs.Ytlheppblioglpaa.Trn
