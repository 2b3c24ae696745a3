/- Contracts of fixAt and CutTrack (impl). -/
import Derived.Test.YtookaodccmlkoaaPos
import Derived.Test.YtookaodccmlkoaaRow
import Derived.OwnWalk
import Derived.Laws.OwnMore
import Derived.IntWalk
namespace Go.Proofs.Ytookaodccmlkoaa.Trk
open Go.ChangeShapes Go.WideShapes Go.ChangeAt Go.RowKit
open Go.Proofs.Ytookaodccmlkoaa.Num Go.Proofs.Ytookaodccmlkoaa.Kit Go.Proofs.Ytookaodccmlkoaa.Pts Go.Proofs.Ytookaodccmlkoaa.Seg Go.Proofs.Ytookaodccmlkoaa.Div
set_option linter.unusedVariables false
set_option linter.unusedSimpArgs false

/-- The fix of a track at a time. -/
def fixOf (fs : List F3) (t : Int) : F3 := ⟨t, pkX fs t (legOf fs t), pkY fs t (legOf fs t)⟩

set_option maxHeartbeats 1000000 in
theorem fixAt_any (a : Option Addr) (cap : Nat) (fs : List F3) (t : Int) (w : World) (hf : Fxs w a fs) (hcap : fs.length ≤ cap) (hv : trB fs = true) (hl : lastB fs t = true) :
    Calls Try.prog 75 #[Tr (.slice a fs.length cap), .int .i64 t] w fun e w' => e = .returned (FxV (fixOf fs t)) ∧ Ext w w' := by
  have HF := Lib.hid hf
  clear hf
  have HQ := Lib.hid (show FxV (fixOf fs t) = .agg #[.int .i64 t, .int .i64 (pkX fs t (legOf fs t)), .int .i64 (pkY fs t (legOf fs t))] from rfl)
  go_enter Try.func75, Try.ntmps75
  go_wp2_with fail
  refine (positionAt_any _ _ _ _ _ (HF.out.ext (by repeat (first | exact Ext.refl _ | assumption | apply Ext.alloc | apply Ext.drew | (refine Ext.trans ?_ (by assumption)) | (refine Ext.setNew ?_ (by simp <;> omega) _)))) hcap hv hl).mono ?_
  rintro e w2 ⟨rfl, h⟩
  have X := Lib.hid ((((Ext.refl w).alloc _).alloc _).trans h)
  have B := Lib.hid (((Box.new3 (w := w.alloc (.cells #[.slice a fs.length cap] 35)) (n := w.heap.size + 1) (x := .int .i64 0) (y := .int .i64 0) (z := .int .i64 0) (t := 44) (by simp)).ext h).alloc (.cells #[.int .i64 (pkX fs t (legOf fs t)), .int .i64 (pkY fs t (legOf fs t))] 25))
  clear h hl hv
  obtain ⟨c0, d0⟩ := B.out 0 _ rfl
  obtain ⟨c1, d1⟩ := B.out 1 _ rfl
  obtain ⟨c2, d2⟩ := B.out 2 _ rfl
  go_wp2
  have hpp : ∀ i : Nat, i < 3 → Box (((w2.alloc (.cells #[.int .i64 (pkX fs t (legOf fs t)), .int .i64 (pkY fs t (legOf fs t))] 25)).setCell ⟨w.heap.size + 1, 0, none⟩ (.int .i64 t)).setCell ⟨w.heap.size + 1, 1, none⟩ (.int .i64 (pkX fs t (legOf fs t))) |>.setCell ⟨w.heap.size + 1, 2, none⟩ (.int .i64 (pkY fs t (legOf fs t)))) (w.heap.size + 1) [.int .i64 t, .int .i64 (pkX fs t (legOf fs t)), .int .i64 (pkY fs t (legOf fs t))] := fun _ _ => ((B.out.set 0 (by simp) (.int .i64 t)).set 1 (by simp) (.int .i64 (pkX fs t (legOf fs t)))).set 2 (by simp) (.int .i64 (pkY fs t (legOf fs t)))
  have B3 := hpp 0 (by omega)
  have g0 := (B3 0 _ rfl).1
  have g1 := (B3 1 _ rfl).1
  have g2 := (B3 2 _ rfl).1
  rw [HQ.out]
  exact bodyPost_ret (v := .agg #[.int .i64 t, .int .i64 (pkX fs t (legOf fs t)), .int .i64 (pkY fs t (legOf fs t))]) (by simp [results, Try.results75, go_sem, g0, g1, g2]) rfl ⟨rfl, (((X.out.alloc _).setNew (p := ⟨w.heap.size + 1, 0, none⟩) (by simp) _).setNew (p := ⟨w.heap.size + 1, 1, none⟩) (by simp) _).setNew (p := ⟨w.heap.size + 1, 2, none⟩) (by simp) _⟩

/-- The code of a cut. -/
def ckI (fs : List F3) (f t : Int) : Int := if trB fs = true then (if f < t ∧ lastB fs f = true ∧ lastB fs t = true then 0 else 2) else 1

set_option maxHeartbeats 1000000 in
theorem cut_bad (a : Option Addr) (cap : Nat) (fs : List F3) (f t : Int) (w : World) (hf : Fxs w a fs) (hcap : fs.length ≤ cap) (hk : ckI fs f t ≠ 0) :
    Calls Try.prog 32 #[Tr (.slice a fs.length cap), .int .i64 f, .int .i64 t] w fun e w' => e = .returned (.tuple #[Tr (.slice none 0 0), .int .i64 (ckI fs f t)]) ∧ Ext w w' := by
  have HF := Lib.hid hf
  clear hf
  cases hv : trB fs
  · have H := Lib.hid (show ckI fs f t = 1 by unfold ckI; rw [hv]; simp)
    rw [H.out]
    go_enter Try.func32, Try.ntmps32
    go_wp2_with fail
    refine (trackValid_any _ _ _ _ (HF.out.ext (by repeat (first | exact Ext.refl _ | assumption | apply Ext.alloc | apply Ext.drew | (refine Ext.trans ?_ (by assumption)) | (refine Ext.setNew ?_ (by simp <;> omega) _))))).mono ?_
    rw [hv]
    rintro e w1 ⟨rfl, h⟩
    have X := Lib.hid ((((Ext.refl w).alloc _).alloc _).trans h)
    obtain ⟨r0, rf⟩ := ((Box.new (w := w.alloc (.cells #[.slice a fs.length cap] 35)) (vs := [.slice none 0 0]) (t := 35) rfl).ext h) 0 _ rfl
    simp at r0 rf
    clear h
    go_wp2
    have g0 : (w1.setCell ⟨w.heap.size + 1, 0, none⟩ (.slice none 0 0)).cell? ⟨w.heap.size + 1, 0, none⟩ = some (.slice none 0 0) := World.cell?_setCell_same _ _ _ r0
    exact bodyPost_ret (v := .tuple #[Tr (.slice none 0 0), .int .i64 1]) (by simp [results, Try.results32, go_sem, g0]) rfl ⟨rfl, X.out.setNew (p := ⟨w.heap.size + 1, 0, none⟩) (by simp) _⟩
  · have h0 : 0 < fs.length := by have := (trB_yes hv).1; omega
    have H := Lib.hid (show ckI fs f t = 2 by unfold ckI at hk ⊢; rw [if_pos hv] at hk ⊢; split at hk <;> simp_all)
    rw [H.out]
    have HN := Lib.hid (show ¬ (f < t ∧ lastB fs f = true ∧ lastB fs t = true) by intro h; apply hk; unfold ckI; rw [if_pos hv, if_pos h])
    clear hk
    go_enter Try.func32, Try.ntmps32
    go_wp2_with fail
    refine (trackValid_any _ _ _ _ (HF.out.ext (by repeat (first | exact Ext.refl _ | assumption | apply Ext.alloc | apply Ext.drew | (refine Ext.trans ?_ (by assumption)) | (refine Ext.setNew ?_ (by simp <;> omega) _))))).mono ?_
    rw [hv]
    rintro e w1 ⟨rfl, h⟩
    have X := Lib.hid ((((Ext.refl w).alloc _).alloc _).trans h)
    obtain ⟨r0, rf⟩ := ((Box.new (w := w.alloc (.cells #[.slice a fs.length cap] 35)) (vs := [.slice none 0 0]) (t := 35) rfl).ext h) 0 _ rfl
    simp at r0 rf
    have b1 : w1.cell? ⟨w.heap.size, 0, none⟩ = some (.slice a fs.length cap) := h.cellOf (((Ext.refl _).alloc _).cellOf (boxed 0 rfl rfl))
    clear h
    by_cases hft : t ≤ f
    · have hd : decide (f ≥ t) = true := decide_eq_true hft
      go_wp2
      have g0 : (w1.setCell ⟨w.heap.size + 1, 0, none⟩ (.slice none 0 0)).cell? ⟨w.heap.size + 1, 0, none⟩ = some (.slice none 0 0) := World.cell?_setCell_same _ _ _ r0
      exact bodyPost_ret (v := .tuple #[Tr (.slice none 0 0), .int .i64 2]) (by simp [results, Try.results32, go_sem, g0]) rfl ⟨rfl, X.out.setNew (p := ⟨w.heap.size + 1, 0, none⟩) (by simp) _⟩
    · have hd : decide (f ≥ t) = false := decide_eq_false hft
      cases hl : lastB fs f
      · go_wp2_with fail
        refine (lastsAt_any _ _ _ _ _ (HF.out.ext X.out) h0).mono ?_
        rw [hl]
        rintro e w2 ⟨rfl, h⟩
        replace rf := h.thawOf r0 rf
        replace r0 := h.cellOf r0
        replace X := Lib.hid (X.out.trans h)
        clear h b1
        go_wp2
        have g0 : (w2.setCell ⟨w.heap.size + 1, 0, none⟩ (.slice none 0 0)).cell? ⟨w.heap.size + 1, 0, none⟩ = some (.slice none 0 0) := World.cell?_setCell_same _ _ _ r0
        exact bodyPost_ret (v := .tuple #[Tr (.slice none 0 0), .int .i64 2]) (by simp [results, Try.results32, go_sem, g0]) rfl ⟨rfl, X.out.setNew (p := ⟨w.heap.size + 1, 0, none⟩) (by simp) _⟩
      · have hl2 : lastB fs t = false := by
          cases h : lastB fs t
          · rfl
          · exact absurd ⟨by omega, hl, h⟩ HN.out
        go_wp2_with fail
        refine (lastsAt_any _ _ _ _ _ (HF.out.ext X.out) h0).mono ?_
        rw [hl]
        rintro e w2 ⟨rfl, h⟩
        replace rf := h.thawOf r0 rf
        replace r0 := h.cellOf r0
        replace b1 := h.cellOf b1
        replace X := Lib.hid (X.out.trans h)
        clear h
        go_wp2_with fail
        refine (lastsAt_any _ _ _ _ _ (HF.out.ext X.out) h0).mono ?_
        rw [hl2]
        rintro e w3 ⟨rfl, h⟩
        replace rf := h.thawOf r0 rf
        replace r0 := h.cellOf r0
        replace X := Lib.hid (X.out.trans h)
        clear h b1
        go_wp2
        have g0 : (w3.setCell ⟨w.heap.size + 1, 0, none⟩ (.slice none 0 0)).cell? ⟨w.heap.size + 1, 0, none⟩ = some (.slice none 0 0) := World.cell?_setCell_same _ _ _ r0
        exact bodyPost_ret (v := .tuple #[Tr (.slice none 0 0), .int .i64 2]) (by simp [results, Try.results32, go_sem, g0]) rfl ⟨rfl, X.out.setNew (p := ⟨w.heap.size + 1, 0, none⟩) (by simp) _⟩

/-- The fixes of a cut. -/
def midF (fs : List F3) (f t : Int) : List F3 := fs.filter fun x => decide (f < x.t) && decide (x.t < t)
def cutF (fs : List F3) (f t : Int) : List F3 := fixOf fs f :: midF fs f t ++ [fixOf fs t]

/-- What the loop of CutTrack keeps. -/
def RelC (w W0 : World) (fs : List F3) (f t : Int) (o n : Value) (wr : World) : Prop :=
  ∃ (i : Nat), n = .int .i64 i ∧ i ≤ fs.length ∧ OwnF wr (w.heap.size + 2) o (fixOf fs f :: midF (fs.take i) f t) ∧ Box wr (w.heap.size + 1) [.slice none 0 0] ∧ Ext W0 wr

theorem fx_at {fs : List F3} {i : Nat} (hi : i < fs.length) : fx fs i = fs[i] := by
  unfold fx
  simp [hi]
theorem midF_yes {fs : List F3} {f t : Int} {i : Nat} (hi : i < fs.length) (h1 : f < (fx fs i).t) (h2 : (fx fs i).t < t) : midF (fs.take (i + 1)) f t = midF (fs.take i) f t ++ [fx fs i] := by
  rw [fx_at hi] at h1 h2 ⊢
  unfold midF
  rw [List.take_succ_eq_append_getElem hi, List.filter_append]
  simp [h1, h2]
theorem midF_no {fs : List F3} {f t : Int} {i : Nat} (hi : i < fs.length) (h : ¬ (f < (fx fs i).t ∧ (fx fs i).t < t)) : midF (fs.take (i + 1)) f t = midF (fs.take i) f t := by
  rw [fx_at hi] at h
  unfold midF
  rw [List.take_succ_eq_append_getElem hi, List.filter_append]
  simp
  omega
theorem midF_len (fs : List F3) (f t : Int) (i : Nat) : (midF (fs.take i) f t).length ≤ i := by
  unfold midF
  exact Nat.le_trans (List.length_filter_le _ _) (by simp; omega)

set_option maxRecDepth 100000 in
set_option maxHeartbeats 2000000 in
theorem cut_good (a : Option Addr) (cap : Nat) (fs : List F3) (f t : Int) (w : World) (hf : Fxs w a fs) (hcap : fs.length ≤ cap) (hv : trB fs = true) (hft : f < t) (hl : lastB fs f = true) (hl2 : lastB fs t = true) :
    Calls Try.prog 32 #[Tr (.slice a fs.length cap), .int .i64 f, .int .i64 t] w fun e w' => ∃ v, e = .returned (.tuple #[Tr v, .int .i64 0]) ∧ OwnF w' w.heap.size v (cutF fs f t) ∧ Ext w w' := by
  obtain ⟨⟨_, h40⟩, _⟩ := trB_yes hv
  have hd : decide (f ≥ t) = false := decide_eq_false (by omega)
  have h0 : 0 < fs.length := by have := (trB_yes hv).1; omega
  obtain ⟨W0, hW0⟩ : ∃ W0, W0 = w.alloc (.cells #[.slice a fs.length cap] 35) := ⟨_, rfl⟩
  have HW := Lib.hid (show Ext w W0 from hW0 ▸ (Ext.refl w).alloc _)
  have HF := Lib.hid (hf.ext HW.out)
  have bt : ∀ w', Ext W0 w' → w'.cell? ⟨w.heap.size, 0, none⟩ = some (.slice a fs.length cap) := fun w' h => h.cellOf (hW0 ▸ boxed 0 rfl rfl)
  have hs0 : W0.heap.size = w.heap.size + 1 := by rw [hW0]; simp
  clear hf
  go_enter Try.func32, Try.ntmps32
  go_wp2_with fail
  refine (trackValid_any _ _ _ _ (HF.out.ext (hW0 ▸ (Ext.refl _).alloc _))).mono ?_
  rw [hv]
  rintro e w1 ⟨rfl, h⟩
  rw [← hW0] at h
  have X := Lib.hid (((Ext.refl W0).alloc _).trans h)
  have R := Lib.hid ((Box.new (w := W0) (vs := [.slice none 0 0]) (t := 35) rfl).ext h)
  rw [hs0] at R
  have b1 := bt _ X.out
  have zz := Below.size h
  simp [hs0] at zz
  clear h
  go_wp2_with fail
  refine (lastsAt_any _ _ _ _ _ (HF.out.ext X.out) h0).mono ?_
  rw [hl]
  rintro e w2 ⟨rfl, h⟩
  replace R := Lib.hid (R.out.ext h)
  replace b1 := h.cellOf b1
  replace X := Lib.hid (X.out.trans h)
  have z2 := Below.size h
  clear h
  go_wp2_with fail
  refine (lastsAt_any _ _ _ _ _ (HF.out.ext X.out) h0).mono ?_
  rw [hl2]
  rintro e w3 ⟨rfl, h⟩
  replace R := Lib.hid (R.out.ext h)
  replace b1 := h.cellOf b1
  replace X := Lib.hid (X.out.trans h)
  have z3 := Below.size h
  clear h
  go_wp2_with fail
  refine (fixAt_any _ _ _ _ _ (HF.out.ext X.out) hcap hv hl).mono ?_
  rintro e w4 ⟨rfl, h⟩
  replace R := Lib.hid (R.out.ext h)
  replace b1 := one_on (h.cellOf b1)
  replace X := Lib.hid (X.out.trans h)
  have z4 := Below.size h
  clear h
  have O0 : OwnF (w4.alloc (.cells #[.int .i64 (fixOf fs f).t, .int .i64 (fixOf fs f).x, .int .i64 (fixOf fs f).y] 44)) (w.heap.size + 2) (.slice (some ⟨w4.heap.size, 0, none⟩) 1 1) [fixOf fs f] := by
    have := World.ownsRow_lit (base := w.heap.size + 2) (e := 44) (size := 3) w4 #[.int .i64 (fixOf fs f).t, .int .i64 (fixOf fs f).x, .int .i64 (fixOf fs f).y] 1 (by omega) (by unfold maxLen; omega) (by simp)
    simpa [OwnF, cellsF] using this
  have hm := HF.out.1
  unfold maxLen at hm
  have hb : ∃ b off, a = some ⟨b, off, none⟩ ∧ ∀ i, i < fs.length → At W0 b (off + i * 3) (fx fs i) := by
    rcases HF.out.2 with h | h
    · rw [h] at h0; simp at h0
    · exact h
  obtain ⟨b, off, rfl, hb⟩ := hb
  have HB := Lib.hid hb
  clear hb
  go_wp2
  go_loopw [8, 38] (fun o n wr => RelC w W0 fs f t o n wr) (fun o n _ => fs.length - (intOf n).toNat)
  case atStart => exact ⟨0, by go_num, by omega, by simpa [midF] using O0, R.out.alloc _, X.out.alloc _⟩
  case round =>
    obtain ⟨i, rfl, hi, O, R, hx⟩ := hrel
    have HO := Lib.hid O
    have HX := Lib.hid hx
    have HR := Lib.hid R
    have b2 := bt _ HX.out
    clear O hx R
    have j0 : (0 : Int) ≤ (i : Int) := by omega
    by_cases hk : i < fs.length
    · obtain ⟨c0, c1, c2⟩ := HB.out i hk
      replace c0 := HX.out.cellOf c0
      replace c1 := HX.out.cellOf c1
      replace c2 := HX.out.cellOf c2
      have j1 : (i : Int) < (fs.length : Int) := by omega
      have T7 : IntKind.i64.wrap ((i : Int) + 1) = (i : Int) + 1 := IntWalk.i64_in _ (by omega)
      have HL := midF_len fs f t i
      by_cases h1 : f < (fx fs i).t
      · have d1 : decide (f < (fx fs i).t) = true := decide_eq_true h1
        by_cases h2 : (fx fs i).t < t
        · have d2 : decide ((fx fs i).t < t) = true := decide_eq_true h2
          have HM := Lib.hid (midF_yes hk h1 h2)
          obtain ⟨gs, hgs⟩ : ∃ gs, gs = fixOf fs f :: midF (fs.take i) f t := ⟨_, rfl⟩
          rw [← hgs] at HO
          have HG := Lib.hid (show fixOf fs f :: midF (fs.take (i + 1)) f t = gs ++ [fx fs i] by rw [HM.out, hgs]; rfl)
          have hgl : gs.length ≤ i + 1 := by rw [hgs]; simp; omega
          have zr := Below.size HX.out
          have OA := (HO.out.ext ((Ext.refl wr).alloc (.cells #[.int .i64 (fx fs i).t, .int .i64 (fx fs i).x, .int .i64 (fx fs i).y] 44))).ext ((Ext.refl _).alloc (.cells #[.int .i64 (fx fs i).t, .int .i64 (fx fs i).x, .int .i64 (fx fs i).y] 44))
          have one3 := one_cells (w := wr.alloc (.cells #[.int .i64 (fx fs i).t, .int .i64 (fx fs i).x, .int .i64 (fx fs i).y] 44)) (t := (fx fs i).t) (x := (fx fs i).x) (y := (fx fs i).y) (ty := 44)
          clear hgs HM
          obtain ⟨i0, hin, hz0', hz1', hz2'⟩ := info_parts fixInfo
          go_wp2_with (at_builtin; refine wpList_append_own _ rfl _ _ 33 rfl (w.heap.size + 2) 44 i0 (Fx 0 0 0) 3 24 Try.underlying33 hin hz0' hz1' hz2' rfl (by decide) _ gs.length _ rfl OA ⟨wr.heap.size + 1, 0, none⟩ 1 1 [.int .i64 (fx fs i).t, .int .i64 (fx fs i).x, .int .i64 (fx fs i).y] rfl rfl (by simpa using one3) one_ones (by unfold maxLen; omega) (by omega) (by simp; omega) ?_; intro v' w5 hown hgrow hnil)
          have O5 := Lib.hid (OwnF.snoc hown)
          have R5 := Lib.hid (grown_box OA hgrow (OA.block (by omega)) ((HR.out.alloc _).alloc _))
          have X5 := Lib.hid (grown_ext (w0 := W0) OA hgrow (by omega) ((HX.out.alloc _).alloc _))
          clear hown hgrow hnil OA
          go_roundw
          case rel => exact ⟨i + 1, by go_num, by omega, by rw [HG.out]; exact O5.out, R5.out, X5.out⟩
          case measure => simp [intOf]; omega
        · have d2 : decide ((fx fs i).t < t) = false := decide_eq_false h2
          have HM := Lib.hid (midF_no (f := f) (t := t) hk (fun h => h2 h.2))
          go_wp2
          go_roundw
          case rel => exact ⟨i + 1, by go_num, by omega, by rw [HM.out]; exact HO.out.ext ((Ext.refl _).alloc _), HR.out.alloc _, HX.out.alloc _⟩
          case measure => simp [intOf]; omega
      · have d1 : decide (f < (fx fs i).t) = false := decide_eq_false h1
        have HM := Lib.hid (midF_no (f := f) (t := t) hk (fun h => h1 h.1))
        go_wp2
        go_roundw
        case rel => exact ⟨i + 1, by go_num, by omega, by rw [HM.out]; exact HO.out.ext ((Ext.refl _).alloc _), HR.out.alloc _, HX.out.alloc _⟩
        case measure => simp [intOf]; omega
    · obtain rfl : i = fs.length := by omega
      have j2 : ¬ ((fs.length : Int) < (fs.length : Int)) := by omega
      rw [List.take_length] at HO
      obtain ⟨gs, hgs⟩ : ∃ gs, gs = fixOf fs f :: midF fs f t := ⟨_, rfl⟩
      rw [← hgs] at HO
      have HG := Lib.hid (show cutF fs f t = gs ++ [fixOf fs t] by rw [hgs]; rfl)
      have hgl : gs.length ≤ fs.length + 1 := by
        have := midF_len fs f t fs.length
        rw [List.take_length] at this
        rw [hgs]; simp; omega
      have zr := Below.size HX.out
      clear hgs
      go_wp2_with fail
      refine (fixAt_any _ _ _ _ _ (HF.out.ext HX.out) hcap hv hl2).mono ?_
      rintro e w6 ⟨rfl, h⟩
      have OA := (HO.out.ext h).ext ((Ext.refl _).alloc (.cells #[.int .i64 (fixOf fs t).t, .int .i64 (fixOf fs t).x, .int .i64 (fixOf fs t).y] 44))
      have R6 := Lib.hid (HR.out.ext h)
      have X6 := Lib.hid (HX.out.trans h)
      have z6 := Below.size h
      have one3 := one_cells (w := w6) (t := (fixOf fs t).t) (x := (fixOf fs t).x) (y := (fixOf fs t).y) (ty := 44)
      clear h HR HO b2
      obtain ⟨i0, hin, hz0', hz1', hz2'⟩ := info_parts fixInfo
      obtain ⟨rb0, rb1⟩ := (R6.out.alloc (.cells #[.int .i64 (fixOf fs t).t, .int .i64 (fixOf fs t).x, .int .i64 (fixOf fs t).y] 44)) 0 _ rfl
      go_wp2_with (at_builtin; refine wpList_append_own _ rfl _ _ 33 rfl (w.heap.size + 2) 44 i0 (Fx 0 0 0) 3 24 Try.underlying33 hin hz0' hz1' hz2' rfl (by decide) _ gs.length _ rfl OA ⟨w6.heap.size, 0, none⟩ 1 1 [.int .i64 (fixOf fs t).t, .int .i64 (fixOf fs t).x, .int .i64 (fixOf fs t).y] rfl rfl one3 one_ones (by unfold maxLen; omega) (by omega) (by simp; omega) ?_; intro v' w5 hown hgrow hnil; have O5 : OwnF w5 (w.heap.size + 2) v' (gs ++ [fixOf fs t]) := OwnF.snoc hown; have R5 := Lib.hid (grown_box OA hgrow (OA.block (by omega)) (R6.out.alloc _)); have X5 := Lib.hid (grown_ext (w0 := W0) OA hgrow (by omega) (X6.out.alloc _)); (obtain ⟨a5, cap5, rfl, hc5, hF5, _⟩ := O5.fxs); replace O5 := Lib.hid O5; obtain ⟨r0, rf⟩ := R5.out 0 _ rfl; clear hown hgrow hnil OA)
      have g0 : (w5.setCell ⟨w.heap.size + 1, 0, none⟩ (.slice a5 (gs ++ [fixOf fs t]).length cap5)).cell? ⟨w.heap.size + 1, 0, none⟩ = some (.slice a5 (gs ++ [fixOf fs t]).length cap5) := World.cell?_setCell_same _ _ _ r0
      have OF := OwnF.mono (b2 := w.heap.size) (O5.out.chg ((Chg.refl (w.heap.size + 1) _).setCell 0 (.slice a5 (gs ++ [fixOf fs t]).length cap5)) (O5.out.block (by omega))) (by omega)
      have eL : (gs ++ [fixOf fs t]).length = gs.length + 1 := by simp
      rw [eL] at OF g0
      rw [← HG.out] at OF
      have XF := (HW.out.trans X5.out).setNew (p := ⟨w.heap.size + 1, 0, none⟩) (by simp) (.slice a5 (gs.length + 1) cap5)
      clear HG eL hgl O5 hc5 hF5
      generalize gs.length + 1 = L at *
      exact bodyPost_ret (v := .tuple #[Tr (.slice a5 L cap5), .int .i64 0]) (by simp [results, Try.results32, go_sem, g0]) rfl ⟨_, rfl, OF, XF⟩

end Go.Proofs.Ytookaodccmlkoaa.Trk
