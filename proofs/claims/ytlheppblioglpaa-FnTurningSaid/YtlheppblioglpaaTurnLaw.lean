/- FnTurning: for every code, whether the boat that is drawn is turning is as in the reference model, it is so within MaxSpan if it is within the drawn span, and at the time of each manoeuvre. No condition. -/
import Derived.Test.YtlheppblioglpaaDrawTn
import Derived.Test.YtlheppblioglpaaTrn2
import Derived.Test.YtlheppblioglpaaBig
import Derived.ChangeOld
import Derived.Below
import Derived.Lib.SmallJoins
import Derived.Deep.DeepCutAuto
namespace Go.Proofs.Ytlheppblioglpaa.fnTurning
open Go.ChangeShapes Go.WideShapes Go.ChangeAt Go.RowKit
open Go.Proofs.Ytlheppblioglpaa.Kit Go.Proofs.Ytlheppblioglpaa.Num Go.Proofs.Ytlheppblioglpaa.Draw Go.Proofs.Ytlheppblioglpaa.Pts Go.Proofs.Ytlheppblioglpaa.Wnd Go.Proofs.Ytlheppblioglpaa.Trn Go.Proofs.Ytlheppblioglpaa.Gcd
open Go.Proofs.Ytlheppblioglpaa.Mnv (M2 Mxs OwnM px PAt)
open Go.Proofs.Ytlheppblioglpaa.Trk (F3 Fxs Tr trB fx lastB times_le trB_yes IntRow)
set_option linter.unusedVariables false
set_option linter.unusedSimpArgs false

theorem ti_ok {x y : Int} {fs : List F3} {t s : Int} (h : tuC x y fs t s = 0) : moC x y fs = 0 ∧ lastB fs t = true ∧ inB s 0 60000 = true := by
  by_cases hc : moC x y fs = 0
  · cases h1 : lastB fs t
    · rw [(tu_out (s := s) hc h1).1] at h; cases h
    · cases h2 : inB s 0 60000
      · rw [(tu_span hc h1 h2).1] at h; cases h
      · exact ⟨hc, rfl, rfl⟩
  · rw [(tu_bad (t := t) (s := s) hc).1] at h; cases h
theorem tn_mono {fs : List F3} {t s u : Int} {ps : List M2} (hs : s ≤ u) (h : tnB fs t s ps = true) : tnB fs t u ps = true := by
  obtain ⟨j, hj, h⟩ := tn_ex h
  refine tn_yes hj ?_
  unfold nrB at h ⊢
  have := of_decide_eq_true h
  exact decide_eq_true (by omega)
/-- Within MaxSpan. -/
theorem tu_max {x y : Int} {fs : List F3} {t s : Int} (h : tuC x y fs t s = 0) : tuC x y fs t 60000 = 0 ∧ (tuB x y fs t s = true → tuB x y fs t 60000 = true) := by
  obtain ⟨hc, hl, hs⟩ := ti_ok h
  have e1 := tu_yes hc hl hs
  have e2 := tu_yes (s := 60000) hc hl (by decide)
  refine ⟨e2.1, ?_⟩
  rw [e1.2, e2.2]
  exact tn_mono (of_inB hs).2
/-- At a manoeuvre. -/
theorem tu_at {x y : Int} {fs : List F3} {t s : Int} (h : tuC x y fs t s = 0) {i k : Nat} (hi : i < (mnL x y fs (fs.length - 2)).length) (hk : (px (mnL x y fs (fs.length - 2)) i).x = k) (hk2 : k < fs.length) :
    tuC x y fs (fx fs k).t 0 = 0 ∧ tuB x y fs (fx fs k).t 0 = true := by
  obtain ⟨hc, _, _⟩ := ti_ok h
  obtain ⟨hw, hv⟩ := mo_ok hc
  have hl : lastB fs (fx fs k).t = true := inB_yes (times_le hv (i := 0) (j := k) (by omega) hk2) (times_le hv (i := k) (j := fs.length - 1) (by omega) (by omega))
  have e := tu_yes (s := 0) hc hl (by decide)
  refine ⟨e.1, ?_⟩
  rw [e.2]
  refine tn_yes hi ?_
  unfold nrB
  rw [hk]
  simp [ab]

def RelTl (W : World) (n : Nat) (i : Value) (wr : World) : Prop := ∃ j : Nat, i = .int .i64 j ∧ j ≤ n ∧ Ext W wr

set_option maxRecDepth 100000 in
set_option maxHeartbeats 8000000 in
theorem walk (c : Option Addr) (len cap : Nat) (zs : List Int) (w : World) (hr : IsRow .u8 w c len cap zs) :
    Calls Try.prog 4 #[.slice c len cap] w fun e w' => e = .returned (.bool true) ∧ Ext w w' := by
  have HB := Lib.hid hr.bytes
  clear hr
  by_cases hl : 4096 < len
  · have g := show bigB len = true from decide_eq_true hl
    go_enter Try.func4, Try.ntmps4
    go_wp2_with (go_at_call 9; refine (big_any _ _ _ _).mono ?_; rintro e w' ⟨rfl, rfl⟩)
    go_ret
    exact ⟨rfl, Ext.refl _⟩
  have g := show bigB len = false from decide_eq_false hl
  go_enter Try.func4, Try.ntmps4
  go_wp2_with fail
  refine (big_any _ _ _ _).mono ?_
  rintro e w' ⟨rfl, rfl⟩
  go_wp2_with fail
  refine (drawTurningAt_any c len cap _ HB.out (by omega)).mono ?_
  rintro e w1 ⟨x, y, gg, tc, n, t, s, rfl, h1, h41, htc, hI, hx⟩
  obtain ⟨fs, rfl, hOwn⟩ := IntRow.own n hI
  obtain ⟨W2, hW2⟩ : ∃ W2, W2 = (w1.alloc (.cells #[.int .i64 x, .int .i64 y] 25)).alloc (.cells #[.slice (some ⟨gg, 0, none⟩) fs.length tc] 46) := ⟨_, rfl⟩
  have X2 : Ext w1 W2 := hW2 ▸ ((Ext.refl w1).alloc _).alloc _
  have F2 := Lib.hid ((hOwn.fxs (by unfold maxLen; omega)).ext X2)
  have X := Lib.hid (hx.trans X2)
  have p0 : W2.cell? ⟨w1.heap.size, 0, none⟩ = some (.int .i64 x) := hW2 ▸ ((Ext.refl _).alloc _).cellOf (boxed 0 rfl rfl)
  have p1 : W2.cell? ⟨w1.heap.size, 1, none⟩ = some (.int .i64 y) := hW2 ▸ ((Ext.refl _).alloc _).cellOf (boxed 1 rfl rfl)
  have q0 : W2.cell? ⟨w1.heap.size + 1, 0, none⟩ = some (.slice (some ⟨gg, 0, none⟩) fs.length tc) := hW2 ▸ boxed 0 rfl (by simp)
  have HL := Lib.hid (show fs.length ≤ 1048576 by omega)
  clear hx HB g hl X2 hI hOwn h1 htc
  go_upto_region 4 with fail
  rw [← hW2]
  clear hW2
  have KI := Lib.hid (fun (t s : Int) (w : World) (hf : Fxs w (some ⟨gg, 0, none⟩) fs) => turningAt_impl x y (some ⟨gg, 0, none⟩) tc fs t s w hf HL.out)
  have HMX := Lib.hid (tu_max (x := x) (y := y) (fs := fs) (t := t) (s := s))
  have HAT := Lib.hid (fun h i k => tu_at (x := x) (y := y) (fs := fs) (t := t) (s := s) h (i := i) (k := k))
  have HOK := Lib.hid (ti_ok (x := x) (y := y) (fs := fs) (t := t) (s := s))
  go_wp2_with fail
  refine (KI.out t s _ F2.out).mono ?_
  rintro e w3 ⟨rfl, hy⟩
  replace p0 := hy.cellOf p0
  replace p1 := hy.cellOf p1
  replace q0 := hy.cellOf q0
  replace X := Lib.hid (X.out.trans hy)
  replace F2 := Lib.hid (F2.out.ext hy)
  clear hy
  go_wp2_with fail
  refine (turningAt_spec _ _ _ _ _ _ _ _ F2.out).mono ?_
  rintro e w4 ⟨rfl, hy⟩
  replace p0 := hy.cellOf p0
  replace p1 := hy.cellOf p1
  replace q0 := hy.cellOf q0
  replace X := Lib.hid (X.out.trans hy)
  replace F2 := Lib.hid (F2.out.ext hy)
  clear hy
  by_cases hc : tuC x y fs t s = 0
  rotate_left
  · have hc1 : (tuC x y fs t s != 0) = true := by simpa using hc
    clear HMX HAT HOK KI hc
    generalize tuC x y fs t s = C at *
    cases hb : tuB x y fs t s
    all_goals
      go_wp2
      go_ret
      exact ⟨rfl, X.out⟩
  obtain ⟨m1, m2⟩ := HMX.out hc
  have HM2 := Lib.hid m2
  obtain ⟨hmo, hla, hsp⟩ := HOK.out hc
  obtain ⟨hw, hv⟩ := mo_ok hmo
  have ha := fun i k => HAT.out hc i k
  have HA := Lib.hid ha
  have hmx := mn_fix x y fs (fs.length - 2)
  have l2 := (trB_yes hv).1.1
  have HK := Lib.hid (show ∀ i, i < (mnL x y fs (fs.length - 2)).length → ∃ k : Nat, (px (mnL x y fs (fs.length - 2)) i).x = k ∧ k < fs.length from fun i hi => by
    obtain ⟨k, ek, k1, k2⟩ := hmx i hi
    exact ⟨k, ek, by omega⟩)
  have HE := Lib.hid (mo_yes hw hv)
  have hlen := mnL_len x y fs (fs.length - 2)
  rw [hc]
  have KM := Lib.hid (fun (w : World) (hf : Fxs w (some ⟨gg, 0, none⟩) fs) => manoeuvresOf_spec x y (some ⟨gg, 0, none⟩) tc fs w hf)
  have K2 := Lib.hid (show ∀ w, Fxs w (some ⟨gg, 0, none⟩) fs → _ from fun w hf => KI.out t 60000 w hf)
  rw [m1] at K2
  rw [HE.out.1, HE.out.2] at KM
  have K3 := Lib.hid (show ∀ (i k : Nat), i < (mnL x y fs (fs.length - 2)).length → (px (mnL x y fs (fs.length - 2)) i).x = k → k < fs.length → ∀ w, Fxs w (some ⟨gg, 0, none⟩) fs → Calls Try.prog 17 #[Pt x y, Tr (.slice (some ⟨gg, 0, none⟩) fs.length tc), .int .i64 (fx fs k).t, .int .i64 0] w fun e w' => e = .returned (.tuple #[.bool true, .int .i64 0]) ∧ Ext w w' from fun i k hi hk hk2 w hf => by
    obtain ⟨e1, e2⟩ := HA.out i k hi hk hk2
    have := KI.out (fx fs k).t 0 w hf
    rw [e1, e2] at this
    exact this)
  generalize mnL x y fs (fs.length - 2) = ML at *
  generalize tuB x y fs t s = V at *
  generalize tuB x y fs t 60000 = Y at *
  clear ha hmx HAT HA HE HOK KI hmo hla hsp hw hv m1 m2 hc HMX
  have hVY : (!V || Y) = true := by
    cases V
    · rfl
    · rw [HM2.out rfl]; rfl
  have hpre : V = false ∨ (V = true ∧ Y = true) := by
    cases V
    · exact .inl rfl
    · exact .inr ⟨rfl, HM2.out rfl⟩
  clear hVY HM2
  rcases hpre with rfl | ⟨rfl, rfl⟩
  all_goals
    go_wp2_with fail
    refine (K2.out _ F2.out).mono ?_
    rintro e w5 ⟨rfl, hy⟩
    replace p0 := hy.cellOf p0
    replace p1 := hy.cellOf p1
    replace q0 := hy.cellOf q0
    replace X := Lib.hid (X.out.trans hy)
    replace F2 := Lib.hid (F2.out.ext hy)
    clear hy
    go_wp2_with fail
    refine (KM.out _ F2.out).mono ?_
    rintro e w6 ⟨v, rfl, hO, hy⟩
    replace p0 := hy.cellOf p0
    replace p1 := hy.cellOf p1
    replace q0 := hy.cellOf q0
    replace X := Lib.hid (X.out.trans hy)
    replace F2 := Lib.hid (F2.out.ext hy)
    obtain ⟨lg, lc, rfl, hP⟩ := hO.mxs (by unfold maxLen; omega)
    have HP := Lib.hid hP
    have e0 : ∀ w', Ext w6 w' → w'.cell? ⟨w1.heap.size, 0, none⟩ = some (.int .i64 x) := fun w' h => h.cellOf p0
    have e1 : ∀ w', Ext w6 w' → w'.cell? ⟨w1.heap.size, 1, none⟩ = some (.int .i64 y) := fun w' h => h.cellOf p1
    have e2 : ∀ w', Ext w6 w' → w'.cell? ⟨w1.heap.size + 1, 0, none⟩ = some (.slice (some ⟨gg, 0, none⟩) fs.length tc) := fun w' h => h.cellOf q0
    have HFC := Lib.hid (show ∀ (w' : World), Ext w6 w' → ∀ i, i < fs.length → w'.cell? ⟨gg, i * 3, none⟩ = some (.int .i64 (fx fs i).t) from fun w' h i hi => by
      rcases F2.out.2 with e | ⟨bb, off, e, hc⟩
      · rw [e] at hi; simp at hi
      · cases e
        have := h.cellOf (hc i hi).1
        rw [Nat.zero_add] at this
        exact this)
    clear hy hP hO p0 p1 q0
    go_wp2
    go_loopw [15] (fun i wr => RelTl w6 ML.length i wr) (fun i _ => ML.length - (intOf i).toNat)
    case atStart => exact ⟨0, rfl, Nat.zero_le _, Ext.refl _⟩
    case round =>
      obtain ⟨j, rfl, hj, hx⟩ := hrel
      have HX := Lib.hid hx
      clear hx
      have i0 : (0 : Int) ≤ (j : Int) := by omega
      have T7 : IntKind.i64.wrap ((j : Int) + 1) = (j : Int) + 1 := IntWalk.i64_in _ (by omega)
      by_cases hj1 : j < ML.length
      · obtain ⟨b, off, rfl, hb⟩ := HP.out.row (by omega)
        have hb0 := (hb j hj1).ext HX.out
        obtain ⟨k, ek, hk⟩ := HK.out j hj1
        have K4 := Lib.hid (fun (w' : World) (h : Ext wr w') => K3.out j k hj1 ek hk w' (F2.out.ext (HX.out.trans h)))
        have i1 : (j : Int) < (ML.length : Int) := by omega
        have j0 : (0 : Int) ≤ (k : Int) := by omega
        have j1 : (k : Int) < (fs.length : Int) := by omega
        have c0 : ∀ w', Ext wr w' → w'.cell? ⟨gg, k * 3, none⟩ = some (.int .i64 (fx fs k).t) := fun w' h => HFC.out w' (HX.out.trans h) k hk
        have c1 : ∀ w', Ext wr w' → w'.cell? ⟨b, off + j * 2, none⟩ = some (.int .i64 k) := fun w' h => by have := (hb0.ext h).1; rw [ek] at this; exact this
        have c2 : ∀ w', Ext wr w' → w'.cell? ⟨w1.heap.size, 0, none⟩ = some (.int .i64 x) := fun w' h => e0 w' (HX.out.trans h)
        have c3 : ∀ w', Ext wr w' → w'.cell? ⟨w1.heap.size, 1, none⟩ = some (.int .i64 y) := fun w' h => e1 w' (HX.out.trans h)
        have c4 : ∀ w', Ext wr w' → w'.cell? ⟨w1.heap.size + 1, 0, none⟩ = some (.slice (some ⟨gg, 0, none⟩) fs.length tc) := fun w' h => e2 w' (HX.out.trans h)
        clear hb hb0 ek
        generalize (fx fs k).t = u at *
        have hr := Ext.refl wr
        go_wp2_with fail
        refine wp_region_held_drew (S := (fun w' => Ext wr w')) (by kernel_rfl) (by (try dsimp only); first | go_keep | exact (Ext.refl _).drew | exact Res.new2.drew | exact Res.new4.drew | exact ResB.drew (by assumption) | exact ResC.drew (by assumption) | assumption | exact Ext.drew (by assumption) | exact Res.drew (by assumption)) (fun hHeld => ?_)
        refine Ord.K 0 73 ?_
        refine Ord.K 1 74 ?_
        refine Ord.K 2 75 ?_
        refine Ord.K 3 76 ?_
        refine Ord.K 4 77 ?_
        refine Ord.K 5 78 ?_
        refine Ord.K 6 79 ?_
        refine Ord.K 7 80 ?_
        refine Ord.K 8 81 ?_
        refine Ord.K 9 82 ?_
        refine Ord.K 10 83 ?_
        refine Ord.K 11 84 ?_
        (refine wpAnyH_ready (rs := [12]) (by kernel_rfl) (by simp) ?_; refine AllReadyH.cons rfl (fun K hK => ?_) AllReadyH.nil; go_simp; (go_at_call 17; refine (K4.out _ (by assumption)).mono ?_; rintro e w7 ⟨rfl, hy⟩); go_wp2_with fail; (refine hK.out _ _ (by first | assumption | exact Ext.trans (by assumption) hy | exact Res.ext (by assumption) hy | exact ResB.ext (by assumption) hy | exact ResC.ext (by assumption) hy | (go_split_ands; (repeat' apply And.intro) <;> exact Ext.cellOf hy (by assumption))) (fun hHeld => ?_)); clear hK K; (try simp only [Act.put, Ord.a, Ord.b, Ord.c]))
        refine Ord.K 13 72 ?_
        refine Ord.K 14 86 ?_
        refine Ord.K 15 87 ?_
        refine Ord.K 16 16 ?_
        refine Ord.K 17 17 ?_
        refine wpAnyH_done (by kernel_rfl) ?_ _
        have HY := Lib.hid (HX.out.trans (by assumption : Ext wr w7))
        go_wp2
        go_roundw
        case rel => exact ⟨j + 1, by go_num, by omega, HY.out⟩
        case measure => simp [intOf]; omega
      · obtain rfl : j = ML.length := by omega
        go_wp2
        go_ret
        exact ⟨rfl, X.out.trans HX.out⟩

end Go.Proofs.Ytlheppblioglpaa.fnTurning
