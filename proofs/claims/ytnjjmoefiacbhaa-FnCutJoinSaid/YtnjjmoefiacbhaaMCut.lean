import Derived.Test.YtnjjmoefiacbhaaPos
import Derived.Test.YtnjjmoefiacbhaaRow
import Derived.OwnWalk
import Derived.Laws.OwnMore
import Derived.IntWalk
import Derived.Deep.DeepCutAuto
namespace Go.Proofs.Ytnjjmoefiacbhaa.Trk
open Go.ChangeShapes Go.WideShapes Go.ChangeAt Go.RowKit
open Go.Proofs.Ytnjjmoefiacbhaa.Num Go.Proofs.Ytnjjmoefiacbhaa.Kit Go.Proofs.Ytnjjmoefiacbhaa.Pts Go.Proofs.Ytnjjmoefiacbhaa.Seg Go.Proofs.Ytnjjmoefiacbhaa.Div
set_option linter.unusedVariables false
set_option linter.unusedSimpArgs false
def fixOf (fs : List F3) (t : Int) : F3 := ⟨t, pkX fs t (legOf fs t), pkY fs t (legOf fs t)⟩
set_option maxHeartbeats 1000000 in
theorem fixAt_any (a : Option Addr) (cap : Nat) (fs : List F3) (t : Int) (w : World) (hf : Fxs w a fs) (hcap : fs.length ≤ cap) (hv : trB fs = true) (hl : lastB fs t = true) :
    Calls Try.prog 32 #[Tr (.slice a fs.length cap), .int .i64 t] w fun e w' => e = .returned (FxV (fixOf fs t)) ∧ Ext w w' := by
  have HF := Lib.hid hf
  clear hf
  have HQ := Lib.hid (show FxV (fixOf fs t) = .agg #[.int .i64 t, .int .i64 (pkX fs t (legOf fs t)), .int .i64 (pkY fs t (legOf fs t))] from rfl)
  go_enter Try.func32, Try.ntmps32
  go_wp2_with fail
  refine (positionAt_any _ _ _ _ _ (HF.out.ext (by repeat (first | exact Ext.refl _ | assumption | apply Ext.alloc | apply Ext.drew | (refine Ext.trans ?_ (by assumption)) | (refine Ext.setNew ?_ (by simp <;> omega) _)))) hcap hv hl).mono ?_
  rintro e w2 ⟨rfl, h⟩
  have X := Lib.hid ((((Ext.refl w).alloc _).alloc _).trans h)
  have B := Lib.hid (((Box.new3 (w := w.alloc (.cells #[.slice a fs.length cap] 28)) (n := w.heap.size + 1) (x := .int .i64 0) (y := .int .i64 0) (z := .int .i64 0) (t := 45) (by simp)).ext h).alloc (.cells #[.int .i64 (pkX fs t (legOf fs t)), .int .i64 (pkY fs t (legOf fs t))] 41))
  clear h hl hv
  obtain ⟨c0, d0⟩ := B.out 0 _ rfl
  obtain ⟨c1, d1⟩ := B.out 1 _ rfl
  obtain ⟨c2, d2⟩ := B.out 2 _ rfl
  go_wp2
  have hpp : ∀ i : Nat, i < 3 → Box (((w2.alloc (.cells #[.int .i64 (pkX fs t (legOf fs t)), .int .i64 (pkY fs t (legOf fs t))] 41)).setCell ⟨w.heap.size + 1, 0, none⟩ (.int .i64 t)).setCell ⟨w.heap.size + 1, 1, none⟩ (.int .i64 (pkX fs t (legOf fs t))) |>.setCell ⟨w.heap.size + 1, 2, none⟩ (.int .i64 (pkY fs t (legOf fs t)))) (w.heap.size + 1) [.int .i64 t, .int .i64 (pkX fs t (legOf fs t)), .int .i64 (pkY fs t (legOf fs t))] := fun _ _ => ((B.out.set 0 (by simp) (.int .i64 t)).set 1 (by simp) (.int .i64 (pkX fs t (legOf fs t)))).set 2 (by simp) (.int .i64 (pkY fs t (legOf fs t)))
  have B3 := hpp 0 (by omega)
  have g0 := (B3 0 _ rfl).1
  have g1 := (B3 1 _ rfl).1
  have g2 := (B3 2 _ rfl).1
  rw [HQ.out]
  exact bodyPost_ret (v := .agg #[.int .i64 t, .int .i64 (pkX fs t (legOf fs t)), .int .i64 (pkY fs t (legOf fs t))]) (by simp [results, Try.results32, go_sem, g0, g1, g2]) rfl ⟨rfl, (((X.out.alloc _).setNew (p := ⟨w.heap.size + 1, 0, none⟩) (by simp) _).setNew (p := ⟨w.heap.size + 1, 1, none⟩) (by simp) _).setNew (p := ⟨w.heap.size + 1, 2, none⟩) (by simp) _⟩
def ckI (fs : List F3) (f t : Int) : Int := if trB fs = true then (if f < t ∧ lastB fs f = true ∧ lastB fs t = true then 0 else 2) else 1
set_option maxHeartbeats 1000000 in
theorem cut_bad (a : Option Addr) (cap : Nat) (fs : List F3) (f t : Int) (w : World) (hf : Fxs w a fs) (hcap : fs.length ≤ cap) (hk : ckI fs f t ≠ 0) :
    Calls Try.prog 14 #[Tr (.slice a fs.length cap), .int .i64 f, .int .i64 t] w fun e w' => e = .returned (.tuple #[Tr (.slice none 0 0), .int .i64 (ckI fs f t)]) ∧ Ext w w' := by
  have HF := Lib.hid hf
  clear hf
  cases hv : trB fs
  · have H := Lib.hid (show ckI fs f t = 1 by unfold ckI; rw [hv]; simp)
    rw [H.out]
    go_enter Try.func14, Try.ntmps14
    go_wp2_with fail
    refine (trackValid_any _ _ _ _ (HF.out.ext (by repeat (first | exact Ext.refl _ | assumption | apply Ext.alloc | apply Ext.drew | (refine Ext.trans ?_ (by assumption)) | (refine Ext.setNew ?_ (by simp <;> omega) _))))).mono ?_
    rw [hv]
    rintro e w1 ⟨rfl, h⟩
    have X := Lib.hid ((((Ext.refl w).alloc _).alloc _).trans h)
    obtain ⟨r0, rf⟩ := ((Box.new (w := w.alloc (.cells #[.slice a fs.length cap] 28)) (vs := [.slice none 0 0]) (t := 28) rfl).ext h) 0 _ rfl
    simp at r0 rf
    clear h
    go_wp2
    have g0 : (w1.setCell ⟨w.heap.size + 1, 0, none⟩ (.slice none 0 0)).cell? ⟨w.heap.size + 1, 0, none⟩ = some (.slice none 0 0) := World.cell?_setCell_same _ _ _ r0
    exact bodyPost_ret (v := .tuple #[Tr (.slice none 0 0), .int .i64 1]) (by simp [results, Try.results14, go_sem, g0]) rfl ⟨rfl, X.out.setNew (p := ⟨w.heap.size + 1, 0, none⟩) (by simp) _⟩
  · have h0 : 0 < fs.length := by have := (trB_yes hv).1; omega
    have H := Lib.hid (show ckI fs f t = 2 by unfold ckI at hk ⊢; rw [if_pos hv] at hk ⊢; split at hk <;> simp_all)
    rw [H.out]
    have HN := Lib.hid (show ¬ (f < t ∧ lastB fs f = true ∧ lastB fs t = true) by intro h; apply hk; unfold ckI; rw [if_pos hv, if_pos h])
    clear hk
    go_enter Try.func14, Try.ntmps14
    go_wp2_with fail
    refine (trackValid_any _ _ _ _ (HF.out.ext (by repeat (first | exact Ext.refl _ | assumption | apply Ext.alloc | apply Ext.drew | (refine Ext.trans ?_ (by assumption)) | (refine Ext.setNew ?_ (by simp <;> omega) _))))).mono ?_
    rw [hv]
    rintro e w1 ⟨rfl, h⟩
    have X := Lib.hid ((((Ext.refl w).alloc _).alloc _).trans h)
    obtain ⟨r0, rf⟩ := ((Box.new (w := w.alloc (.cells #[.slice a fs.length cap] 28)) (vs := [.slice none 0 0]) (t := 28) rfl).ext h) 0 _ rfl
    simp at r0 rf
    have b1 : w1.cell? ⟨w.heap.size, 0, none⟩ = some (.slice a fs.length cap) := h.cellOf (((Ext.refl _).alloc _).cellOf (boxed 0 rfl rfl))
    clear h
    by_cases hft : t ≤ f
    · have hd : decide (f ≥ t) = true := decide_eq_true hft
      go_wp2
      have g0 : (w1.setCell ⟨w.heap.size + 1, 0, none⟩ (.slice none 0 0)).cell? ⟨w.heap.size + 1, 0, none⟩ = some (.slice none 0 0) := World.cell?_setCell_same _ _ _ r0
      exact bodyPost_ret (v := .tuple #[Tr (.slice none 0 0), .int .i64 2]) (by simp [results, Try.results14, go_sem, g0]) rfl ⟨rfl, X.out.setNew (p := ⟨w.heap.size + 1, 0, none⟩) (by simp) _⟩
    · have hd : decide (f ≥ t) = false := decide_eq_false hft
      cases hl : lastB fs f
      · go_wp2_with fail
        refine (lastsAt_any _ _ _ _ _ (HF.out.ext X.out) h0).mono ?_
        rw [hl]
        rintro e w2 ⟨rfl, h⟩
        replace rf := h.thawOf r0 rf
        replace r0 := h.cellOf r0
        replace X := Lib.hid (X.out.trans h)
        clear h b1
        go_wp2
        have g0 : (w2.setCell ⟨w.heap.size + 1, 0, none⟩ (.slice none 0 0)).cell? ⟨w.heap.size + 1, 0, none⟩ = some (.slice none 0 0) := World.cell?_setCell_same _ _ _ r0
        exact bodyPost_ret (v := .tuple #[Tr (.slice none 0 0), .int .i64 2]) (by simp [results, Try.results14, go_sem, g0]) rfl ⟨rfl, X.out.setNew (p := ⟨w.heap.size + 1, 0, none⟩) (by simp) _⟩
      · have hl2 : lastB fs t = false := by
          cases h : lastB fs t
          · rfl
          · exact absurd ⟨by omega, hl, h⟩ HN.out
        go_wp2_with fail
        refine (lastsAt_any _ _ _ _ _ (HF.out.ext X.out) h0).mono ?_
        rw [hl]
        rintro e w2 ⟨rfl, h⟩
        replace rf := h.thawOf r0 rf
        replace r0 := h.cellOf r0
        replace b1 := h.cellOf b1
        replace X := Lib.hid (X.out.trans h)
        clear h
        go_wp2_with fail
        refine (lastsAt_any _ _ _ _ _ (HF.out.ext X.out) h0).mono ?_
        rw [hl2]
        rintro e w3 ⟨rfl, h⟩
        replace rf := h.thawOf r0 rf
        replace r0 := h.cellOf r0
        replace X := Lib.hid (X.out.trans h)
        clear h b1
        go_wp2
        have g0 : (w3.setCell ⟨w.heap.size + 1, 0, none⟩ (.slice none 0 0)).cell? ⟨w.heap.size + 1, 0, none⟩ = some (.slice none 0 0) := World.cell?_setCell_same _ _ _ r0
        exact bodyPost_ret (v := .tuple #[Tr (.slice none 0 0), .int .i64 2]) (by simp [results, Try.results14, go_sem, g0]) rfl ⟨rfl, X.out.setNew (p := ⟨w.heap.size + 1, 0, none⟩) (by simp) _⟩
def midF (fs : List F3) (f t : Int) : List F3 := fs.filter fun x => decide (f < x.t) && decide (x.t < t)
def cutF (fs : List F3) (f t : Int) : List F3 := fixOf fs f :: midF fs f t ++ [fixOf fs t]
def RelC (w W0 : World) (fs : List F3) (f t : Int) (o n : Value) (wr : World) : Prop :=
  ∃ (i : Nat), n = .int .i64 i ∧ i ≤ fs.length ∧ OwnF wr (w.heap.size + 2) o (fixOf fs f :: midF (fs.take i) f t) ∧ Box wr (w.heap.size + 1) [.slice none 0 0] ∧ Ext W0 wr
theorem fx_at {fs : List F3} {i : Nat} (hi : i < fs.length) : fx fs i = fs[i] := by
  unfold fx
  simp [hi]
theorem midF_yes {fs : List F3} {f t : Int} {i : Nat} (hi : i < fs.length) (h1 : f < (fx fs i).t) (h2 : (fx fs i).t < t) : midF (fs.take (i + 1)) f t = midF (fs.take i) f t ++ [fx fs i] := by
  rw [fx_at hi] at h1 h2 ⊢
  unfold midF
  rw [List.take_succ_eq_append_getElem hi, List.filter_append]
  simp [h1, h2]
theorem midF_no {fs : List F3} {f t : Int} {i : Nat} (hi : i < fs.length) (h : ¬ (f < (fx fs i).t ∧ (fx fs i).t < t)) : midF (fs.take (i + 1)) f t = midF (fs.take i) f t := by
  rw [fx_at hi] at h
  unfold midF
  rw [List.take_succ_eq_append_getElem hi, List.filter_append]
  simp
  omega
theorem midF_len (fs : List F3) (f t : Int) (i : Nat) : (midF (fs.take i) f t).length ≤ i := by
  unfold midF
  exact Nat.le_trans (List.length_filter_le _ _) (by simp; omega)
set_option maxRecDepth 100000 in
set_option maxHeartbeats 2000000 in
theorem cut_good (a : Option Addr) (cap : Nat) (fs : List F3) (f t : Int) (w : World) (hf : Fxs w a fs) (hcap : fs.length ≤ cap) (hv : trB fs = true) (hft : f < t) (hl : lastB fs f = true) (hl2 : lastB fs t = true) :
    Calls Try.prog 14 #[Tr (.slice a fs.length cap), .int .i64 f, .int .i64 t] w fun e w' => ∃ v, e = .returned (.tuple #[Tr v, .int .i64 0]) ∧ OwnF w' w.heap.size v (cutF fs f t) ∧ Ext w w' := by
  obtain ⟨⟨_, h40⟩, _⟩ := trB_yes hv
  have hd : decide (f ≥ t) = false := decide_eq_false (by omega)
  have h0 : 0 < fs.length := by have := (trB_yes hv).1; omega
  obtain ⟨W0, hW0⟩ : ∃ W0, W0 = w.alloc (.cells #[.slice a fs.length cap] 28) := ⟨_, rfl⟩
  have HW := Lib.hid (show Ext w W0 from hW0 ▸ (Ext.refl w).alloc _)
  have HF := Lib.hid (hf.ext HW.out)
  have bt : ∀ w', Ext W0 w' → w'.cell? ⟨w.heap.size, 0, none⟩ = some (.slice a fs.length cap) := fun w' h => h.cellOf (hW0 ▸ boxed 0 rfl rfl)
  have hs0 : W0.heap.size = w.heap.size + 1 := by rw [hW0]; simp
  clear hf
  go_enter Try.func14, Try.ntmps14
  go_wp2_with fail
  refine (trackValid_any _ _ _ _ (HF.out.ext (hW0 ▸ (Ext.refl _).alloc _))).mono ?_
  rw [hv]
  rintro e w1 ⟨rfl, h⟩
  rw [← hW0] at h
  have X := Lib.hid (((Ext.refl W0).alloc _).trans h)
  have R := Lib.hid ((Box.new (w := W0) (vs := [.slice none 0 0]) (t := 28) rfl).ext h)
  rw [hs0] at R
  have b1 := bt _ X.out
  have zz := Below.size h
  simp [hs0] at zz
  clear h
  go_wp2_with fail
  refine (lastsAt_any _ _ _ _ _ (HF.out.ext X.out) h0).mono ?_
  rw [hl]
  rintro e w2 ⟨rfl, h⟩
  replace R := Lib.hid (R.out.ext h)
  replace b1 := h.cellOf b1
  replace X := Lib.hid (X.out.trans h)
  have z2 := Below.size h
  clear h
  go_wp2_with fail
  refine (lastsAt_any _ _ _ _ _ (HF.out.ext X.out) h0).mono ?_
  rw [hl2]
  rintro e w3 ⟨rfl, h⟩
  replace R := Lib.hid (R.out.ext h)
  replace b1 := h.cellOf b1
  replace X := Lib.hid (X.out.trans h)
  have z3 := Below.size h
  clear h
  go_wp2_with fail
  refine (fixAt_any _ _ _ _ _ (HF.out.ext X.out) hcap hv hl).mono ?_
  rintro e w4 ⟨rfl, h⟩
  replace R := Lib.hid (R.out.ext h)
  replace b1 := one_on (h.cellOf b1)
  replace X := Lib.hid (X.out.trans h)
  have z4 := Below.size h
  clear h
  have O0 : OwnF (w4.alloc (.cells #[.int .i64 (fixOf fs f).t, .int .i64 (fixOf fs f).x, .int .i64 (fixOf fs f).y] 45)) (w.heap.size + 2) (.slice (some ⟨w4.heap.size, 0, none⟩) 1 1) [fixOf fs f] := by
    have := World.ownsRow_lit (base := w.heap.size + 2) (e := 45) (size := 3) w4 #[.int .i64 (fixOf fs f).t, .int .i64 (fixOf fs f).x, .int .i64 (fixOf fs f).y] 1 (by omega) (by unfold maxLen; omega) (by simp)
    simpa [OwnF, cellsF] using this
  have hm := HF.out.1
  unfold maxLen at hm
  have hb : ∃ b off, a = some ⟨b, off, none⟩ ∧ ∀ i, i < fs.length → At W0 b (off + i * 3) (fx fs i) := by
    rcases HF.out.2 with h | h
    · rw [h] at h0; simp at h0
    · exact h
  obtain ⟨b, off, rfl, hb⟩ := hb
  have HB := Lib.hid hb
  clear hb
  go_wp2
  go_loopw [8, 38] (fun o n wr => RelC w W0 fs f t o n wr) (fun o n _ => fs.length - (intOf n).toNat)
  case atStart => exact ⟨0, by go_num, by omega, by simpa [midF] using O0, R.out.alloc _, X.out.alloc _⟩
  case round =>
    obtain ⟨i, rfl, hi, O, R, hx⟩ := hrel
    have HO := Lib.hid O
    have HX := Lib.hid hx
    have HR := Lib.hid R
    have b2 := bt _ HX.out
    clear O hx R
    have j0 : (0 : Int) ≤ (i : Int) := by omega
    by_cases hk : i < fs.length
    · obtain ⟨c0, c1, c2⟩ := HB.out i hk
      replace c0 := HX.out.cellOf c0
      replace c1 := HX.out.cellOf c1
      replace c2 := HX.out.cellOf c2
      have j1 : (i : Int) < (fs.length : Int) := by omega
      have T7 : IntKind.i64.wrap ((i : Int) + 1) = (i : Int) + 1 := IntWalk.i64_in _ (by omega)
      have HL := midF_len fs f t i
      by_cases h1 : f < (fx fs i).t
      · have d1 : decide (f < (fx fs i).t) = true := decide_eq_true h1
        by_cases h2 : (fx fs i).t < t
        · have d2 : decide ((fx fs i).t < t) = true := decide_eq_true h2
          have HM := Lib.hid (midF_yes hk h1 h2)
          obtain ⟨gs, hgs⟩ : ∃ gs, gs = fixOf fs f :: midF (fs.take i) f t := ⟨_, rfl⟩
          rw [← hgs] at HO
          have HG := Lib.hid (show fixOf fs f :: midF (fs.take (i + 1)) f t = gs ++ [fx fs i] by rw [HM.out, hgs]; rfl)
          have hgl : gs.length ≤ i + 1 := by rw [hgs]; simp; omega
          have zr := Below.size HX.out
          have OA := (HO.out.ext ((Ext.refl wr).alloc (.cells #[.int .i64 (fx fs i).t, .int .i64 (fx fs i).x, .int .i64 (fx fs i).y] 45))).ext ((Ext.refl _).alloc (.cells #[.int .i64 (fx fs i).t, .int .i64 (fx fs i).x, .int .i64 (fx fs i).y] 45))
          have one3 := one_cells (w := wr.alloc (.cells #[.int .i64 (fx fs i).t, .int .i64 (fx fs i).x, .int .i64 (fx fs i).y] 45)) (t := (fx fs i).t) (x := (fx fs i).x) (y := (fx fs i).y) (ty := 45)
          clear hgs HM
          obtain ⟨i0, hin, hz0', hz1', hz2'⟩ := info_parts fixInfo
          go_wp2_with (at_builtin; refine wpList_append_own _ rfl _ _ 26 rfl (w.heap.size + 2) 45 i0 (Fx 0 0 0) 3 24 Try.underlying26 hin hz0' hz1' hz2' rfl (by decide) _ gs.length _ rfl OA ⟨wr.heap.size + 1, 0, none⟩ 1 1 [.int .i64 (fx fs i).t, .int .i64 (fx fs i).x, .int .i64 (fx fs i).y] rfl rfl (by simpa using one3) one_ones (by unfold maxLen; omega) (by omega) (by simp; omega) ?_; intro v' w5 hown hgrow hnil)
          have O5 := Lib.hid (OwnF.snoc hown)
          have R5 := Lib.hid (grown_box OA hgrow (OA.block (by omega)) ((HR.out.alloc _).alloc _))
          have X5 := Lib.hid (grown_ext (w0 := W0) OA hgrow (by omega) ((HX.out.alloc _).alloc _))
          clear hown hgrow hnil OA
          go_roundw
          case rel => exact ⟨i + 1, by go_num, by omega, by rw [HG.out]; exact O5.out, R5.out, X5.out⟩
          case measure => simp [intOf]; omega
        · have d2 : decide ((fx fs i).t < t) = false := decide_eq_false h2
          have HM := Lib.hid (midF_no (f := f) (t := t) hk (fun h => h2 h.2))
          go_wp2
          go_roundw
          case rel => exact ⟨i + 1, by go_num, by omega, by rw [HM.out]; exact HO.out.ext ((Ext.refl _).alloc _), HR.out.alloc _, HX.out.alloc _⟩
          case measure => simp [intOf]; omega
      · have d1 : decide (f < (fx fs i).t) = false := decide_eq_false h1
        have HM := Lib.hid (midF_no (f := f) (t := t) hk (fun h => h1 h.1))
        go_wp2
        go_roundw
        case rel => exact ⟨i + 1, by go_num, by omega, by rw [HM.out]; exact HO.out.ext ((Ext.refl _).alloc _), HR.out.alloc _, HX.out.alloc _⟩
        case measure => simp [intOf]; omega
    · obtain rfl : i = fs.length := by omega
      have j2 : ¬ ((fs.length : Int) < (fs.length : Int)) := by omega
      rw [List.take_length] at HO
      obtain ⟨gs, hgs⟩ : ∃ gs, gs = fixOf fs f :: midF fs f t := ⟨_, rfl⟩
      rw [← hgs] at HO
      have HG := Lib.hid (show cutF fs f t = gs ++ [fixOf fs t] by rw [hgs]; rfl)
      have hgl : gs.length ≤ fs.length + 1 := by
        have := midF_len fs f t fs.length
        rw [List.take_length] at this
        rw [hgs]; simp; omega
      have zr := Below.size HX.out
      clear hgs
      go_wp2_with fail
      refine (fixAt_any _ _ _ _ _ (HF.out.ext HX.out) hcap hv hl2).mono ?_
      rintro e w6 ⟨rfl, h⟩
      have OA := (HO.out.ext h).ext ((Ext.refl _).alloc (.cells #[.int .i64 (fixOf fs t).t, .int .i64 (fixOf fs t).x, .int .i64 (fixOf fs t).y] 45))
      have R6 := Lib.hid (HR.out.ext h)
      have X6 := Lib.hid (HX.out.trans h)
      have z6 := Below.size h
      have one3 := one_cells (w := w6) (t := (fixOf fs t).t) (x := (fixOf fs t).x) (y := (fixOf fs t).y) (ty := 45)
      clear h HR HO b2
      obtain ⟨i0, hin, hz0', hz1', hz2'⟩ := info_parts fixInfo
      obtain ⟨rb0, rb1⟩ := (R6.out.alloc (.cells #[.int .i64 (fixOf fs t).t, .int .i64 (fixOf fs t).x, .int .i64 (fixOf fs t).y] 45)) 0 _ rfl
      go_wp2_with (at_builtin; refine wpList_append_own _ rfl _ _ 26 rfl (w.heap.size + 2) 45 i0 (Fx 0 0 0) 3 24 Try.underlying26 hin hz0' hz1' hz2' rfl (by decide) _ gs.length _ rfl OA ⟨w6.heap.size, 0, none⟩ 1 1 [.int .i64 (fixOf fs t).t, .int .i64 (fixOf fs t).x, .int .i64 (fixOf fs t).y] rfl rfl one3 one_ones (by unfold maxLen; omega) (by omega) (by simp; omega) ?_; intro v' w5 hown hgrow hnil; have O5 : OwnF w5 (w.heap.size + 2) v' (gs ++ [fixOf fs t]) := OwnF.snoc hown; have R5 := Lib.hid (grown_box OA hgrow (OA.block (by omega)) (R6.out.alloc _)); have X5 := Lib.hid (grown_ext (w0 := W0) OA hgrow (by omega) (X6.out.alloc _)); (obtain ⟨a5, cap5, rfl, hc5, hF5, _⟩ := O5.fxs); replace O5 := Lib.hid O5; obtain ⟨r0, rf⟩ := R5.out 0 _ rfl; clear hown hgrow hnil OA)
      have g0 : (w5.setCell ⟨w.heap.size + 1, 0, none⟩ (.slice a5 (gs ++ [fixOf fs t]).length cap5)).cell? ⟨w.heap.size + 1, 0, none⟩ = some (.slice a5 (gs ++ [fixOf fs t]).length cap5) := World.cell?_setCell_same _ _ _ r0
      have OF := OwnF.mono (b2 := w.heap.size) (O5.out.chg ((Chg.refl (w.heap.size + 1) _).setCell 0 (.slice a5 (gs ++ [fixOf fs t]).length cap5)) (O5.out.block (by omega))) (by omega)
      have eL : (gs ++ [fixOf fs t]).length = gs.length + 1 := by simp
      rw [eL] at OF g0
      rw [← HG.out] at OF
      have XF := (HW.out.trans X5.out).setNew (p := ⟨w.heap.size + 1, 0, none⟩) (by simp) (.slice a5 (gs.length + 1) cap5)
      clear HG eL hgl O5 hc5 hF5
      generalize gs.length + 1 = L at *
      exact bodyPost_ret (v := .tuple #[Tr (.slice a5 L cap5), .int .i64 0]) (by simp [results, Try.results14, go_sem, g0]) rfl ⟨_, rfl, OF, XF⟩
end Go.Proofs.Ytnjjmoefiacbhaa.Trk
namespace Go.Proofs.Ytnjjmoefiacbhaa.Trk
open Go.ChangeShapes Go.WideShapes Go.ChangeAt Go.RowKit
open Go.Proofs.Ytnjjmoefiacbhaa.Num Go.Proofs.Ytnjjmoefiacbhaa.Kit Go.Proofs.Ytnjjmoefiacbhaa.Pts Go.Proofs.Ytnjjmoefiacbhaa.Seg Go.Proofs.Ytnjjmoefiacbhaa.Div
set_option linter.unusedVariables false
set_option linter.unusedSimpArgs false
set_option maxHeartbeats 1000000 in
theorem cutS_bad (a : Option Addr) (cap : Nat) (fs : List F3) (f t : Int) (w : World) (hf : Fxs w a fs) (hk : ckI fs f t ≠ 0) :
    Calls Try.prog 15 #[Tr (.slice a fs.length cap), .int .i64 f, .int .i64 t] w fun e w' => e = .returned (.tuple #[Tr (.slice none 0 0), .int .i64 (ckI fs f t)]) ∧ Ext w w' := by
  have HF := Lib.hid hf
  clear hf
  cases hv : trB fs
  · have H := Lib.hid (show ckI fs f t = 1 by unfold ckI; rw [hv]; simp)
    rw [H.out]
    go_enter Try.func15, Try.ntmps15
    go_wp2_with fail
    refine (isTrack_spec _ _ _ _ (HF.out.ext (by repeat (first | exact Ext.refl _ | assumption | apply Ext.alloc | apply Ext.drew | (refine Ext.trans ?_ (by assumption)) | (refine Ext.setNew ?_ (by simp <;> omega) _))))).mono ?_
    rw [hv]
    rintro e w1 ⟨rfl, h⟩
    have X := Lib.hid ((((Ext.refl w).alloc _).alloc _).trans h)
    obtain ⟨r0, rf⟩ := ((Box.new (w := w.alloc (.cells #[.slice a fs.length cap] 28)) (vs := [.slice none 0 0]) (t := 28) rfl).ext h) 0 _ rfl
    simp at r0 rf
    clear h
    go_wp2
    have g0 : (w1.setCell ⟨w.heap.size + 1, 0, none⟩ (.slice none 0 0)).cell? ⟨w.heap.size + 1, 0, none⟩ = some (.slice none 0 0) := World.cell?_setCell_same _ _ _ r0
    exact bodyPost_ret (v := .tuple #[Tr (.slice none 0 0), .int .i64 1]) (by simp [results, Try.results15, go_sem, g0]) rfl ⟨rfl, X.out.setNew (p := ⟨w.heap.size + 1, 0, none⟩) (by simp) _⟩
  · have h0 : 0 < fs.length := by have := (trB_yes hv).1; omega
    have H := Lib.hid (show ckI fs f t = 2 by unfold ckI at hk ⊢; rw [if_pos hv] at hk ⊢; split at hk <;> simp_all)
    rw [H.out]
    have HN := Lib.hid (show ¬ (f < t ∧ lastB fs f = true ∧ lastB fs t = true) by intro h; apply hk; unfold ckI; rw [if_pos hv, if_pos h])
    clear hk
    go_enter Try.func15, Try.ntmps15
    go_wp2_with fail
    refine (isTrack_spec _ _ _ _ (HF.out.ext (by repeat (first | exact Ext.refl _ | assumption | apply Ext.alloc | apply Ext.drew | (refine Ext.trans ?_ (by assumption)) | (refine Ext.setNew ?_ (by simp <;> omega) _))))).mono ?_
    rw [hv]
    rintro e w1 ⟨rfl, h⟩
    have X := Lib.hid ((((Ext.refl w).alloc _).alloc _).trans h)
    obtain ⟨r0, rf⟩ := ((Box.new (w := w.alloc (.cells #[.slice a fs.length cap] 28)) (vs := [.slice none 0 0]) (t := 28) rfl).ext h) 0 _ rfl
    simp at r0 rf
    have b1 : w1.cell? ⟨w.heap.size, 0, none⟩ = some (.slice a fs.length cap) := h.cellOf (((Ext.refl _).alloc _).cellOf (boxed 0 rfl rfl))
    clear h
    by_cases hft : t ≤ f
    · have hd : decide (f ≥ t) = true := decide_eq_true hft
      go_wp2
      have g0 : (w1.setCell ⟨w.heap.size + 1, 0, none⟩ (.slice none 0 0)).cell? ⟨w.heap.size + 1, 0, none⟩ = some (.slice none 0 0) := World.cell?_setCell_same _ _ _ r0
      exact bodyPost_ret (v := .tuple #[Tr (.slice none 0 0), .int .i64 2]) (by simp [results, Try.results15, go_sem, g0]) rfl ⟨rfl, X.out.setNew (p := ⟨w.heap.size + 1, 0, none⟩) (by simp) _⟩
    · have hd : decide (f ≥ t) = false := decide_eq_false hft
      cases hl : lastB fs f
      · go_wp2_with fail
        refine (lasts_spec _ _ _ _ _ (HF.out.ext X.out) h0).mono ?_
        rw [hl]
        rintro e w2 ⟨rfl, h⟩
        replace rf := h.thawOf r0 rf
        replace r0 := h.cellOf r0
        replace X := Lib.hid (X.out.trans h)
        clear h b1
        go_wp2
        have g0 : (w2.setCell ⟨w.heap.size + 1, 0, none⟩ (.slice none 0 0)).cell? ⟨w.heap.size + 1, 0, none⟩ = some (.slice none 0 0) := World.cell?_setCell_same _ _ _ r0
        exact bodyPost_ret (v := .tuple #[Tr (.slice none 0 0), .int .i64 2]) (by simp [results, Try.results15, go_sem, g0]) rfl ⟨rfl, X.out.setNew (p := ⟨w.heap.size + 1, 0, none⟩) (by simp) _⟩
      · have hl2 : lastB fs t = false := by
          cases h : lastB fs t
          · rfl
          · exact absurd ⟨by omega, hl, h⟩ HN.out
        go_wp2_with fail
        refine (lasts_spec _ _ _ _ _ (HF.out.ext X.out) h0).mono ?_
        rw [hl]
        rintro e w2 ⟨rfl, h⟩
        replace rf := h.thawOf r0 rf
        replace r0 := h.cellOf r0
        replace b1 := h.cellOf b1
        replace X := Lib.hid (X.out.trans h)
        clear h
        go_wp2_with fail
        refine (lasts_spec _ _ _ _ _ (HF.out.ext X.out) h0).mono ?_
        rw [hl2]
        rintro e w3 ⟨rfl, h⟩
        replace rf := h.thawOf r0 rf
        replace r0 := h.cellOf r0
        replace X := Lib.hid (X.out.trans h)
        clear h b1
        go_wp2
        have g0 : (w3.setCell ⟨w.heap.size + 1, 0, none⟩ (.slice none 0 0)).cell? ⟨w.heap.size + 1, 0, none⟩ = some (.slice none 0 0) := World.cell?_setCell_same _ _ _ r0
        exact bodyPost_ret (v := .tuple #[Tr (.slice none 0 0), .int .i64 2]) (by simp [results, Try.results15, go_sem, g0]) rfl ⟨rfl, X.out.setNew (p := ⟨w.heap.size + 1, 0, none⟩) (by simp) _⟩
end Go.Proofs.Ytnjjmoefiacbhaa.Trk
namespace Go.Proofs.Ytnjjmoefiacbhaa.Trk
open Go.ChangeShapes Go.WideShapes Go.ChangeAt Go.RowKit
open Go.Proofs.Ytnjjmoefiacbhaa.Num Go.Proofs.Ytnjjmoefiacbhaa.Kit Go.Proofs.Ytnjjmoefiacbhaa.Pts Go.Proofs.Ytnjjmoefiacbhaa.Seg Go.Proofs.Ytnjjmoefiacbhaa.Div
set_option linter.unusedVariables false
set_option linter.unusedSimpArgs false
def RelD (wx : World) (fs : List F3) (f t : Int) (o n : Value) (wr : World) : Prop :=
  ∃ (i : Nat), n = .int .i64 i ∧ i ≤ fs.length ∧ OwnF wr wx.heap.size o (fixOf fs f :: midF (fs.take i) f t) ∧ Ext wx wr
set_option maxRecDepth 100000 in
set_option maxHeartbeats 8000000 in
theorem cutS_good (a : Option Addr) (cap : Nat) (fs : List F3) (f t : Int) (w : World) (hf : Fxs w a fs) (hv : trB fs = true) (hft : f < t) (hl : lastB fs f = true) (hl2 : lastB fs t = true) :
    Calls Try.prog 15 #[Tr (.slice a fs.length cap), .int .i64 f, .int .i64 t] w fun e w' => ∃ v, e = .returned (.tuple #[Tr v, .int .i64 0]) ∧ OwnF w' w.heap.size v (cutF fs f t) ∧ Ext w w' := by
  obtain ⟨⟨_, h40⟩, _⟩ := trB_yes hv
  have hd : decide (f ≥ t) = false := decide_eq_false (by omega)
  have h0 : 0 < fs.length := by have := (trB_yes hv).1; omega
  obtain ⟨W0, hW0⟩ : ∃ W0, W0 = w.alloc (.cells #[.slice a fs.length cap] 28) := ⟨_, rfl⟩
  have HW := Lib.hid (show Ext w W0 from hW0 ▸ (Ext.refl w).alloc _)
  have HF := Lib.hid (hf.ext HW.out)
  have bt : ∀ w', Ext W0 w' → w'.cell? ⟨w.heap.size, 0, none⟩ = some (.slice a fs.length cap) := fun w' h => h.cellOf (hW0 ▸ boxed 0 rfl rfl)
  have hs0 : W0.heap.size = w.heap.size + 1 := by rw [hW0]; simp
  clear hf
  go_enter Try.func15, Try.ntmps15
  go_wp2_with fail
  refine (isTrack_spec _ _ _ _ (HF.out.ext (hW0 ▸ (Ext.refl _).alloc _))).mono ?_
  rw [hv]
  rintro e w1 ⟨rfl, h⟩
  rw [← hW0] at h
  have X := Lib.hid (((Ext.refl W0).alloc _).trans h)
  have R := Lib.hid ((Box.new (w := W0) (vs := [.slice none 0 0]) (t := 28) rfl).ext h)
  rw [hs0] at R
  have b1 := bt _ X.out
  have zz := Below.size h
  simp [hs0] at zz
  clear h
  go_wp2_with fail
  refine (lasts_spec _ _ _ _ _ (HF.out.ext X.out) h0).mono ?_
  rw [hl]
  rintro e w2 ⟨rfl, h⟩
  replace R := Lib.hid (R.out.ext h)
  replace b1 := h.cellOf b1
  replace X := Lib.hid (X.out.trans h)
  have z2 := Below.size h
  clear h
  go_wp2_with fail
  refine (lasts_spec _ _ _ _ _ (HF.out.ext X.out) h0).mono ?_
  rw [hl2]
  rintro e w3 ⟨rfl, h⟩
  replace R := Lib.hid (R.out.ext h)
  replace X := Lib.hid (X.out.trans h)
  have z3 := Below.size h
  clear h b1
  have e0 : ∀ w', Ext w3 w' → w'.cell? ⟨w.heap.size, 0, none⟩ = some (.slice a fs.length cap) := fun w' h => bt _ (X.out.trans h)
  have PS1 := Lib.hid (fun w' (h : Ext w3 w') => at_spec a cap fs f w' (HF.out.ext (X.out.trans h)) hv hl)
  have PS2 := Lib.hid (fun w' (h : Ext w3 w') => at_spec a cap fs t w' (HF.out.ext (X.out.trans h)) hv hl2)
  go_upto_region 5 with fail
  go_cut [8, 9] (fun s u wx => (∃ B, s = .pointer (some ⟨B, 0, none⟩) ∧ Box wx B [.int .i64 (fixOf fs f).x, .int .i64 (fixOf fs f).y]) ∧ (∃ B, u = .pointer (some ⟨B, 0, none⟩) ∧ Box wx B [.int .i64 (fixOf fs t).x, .int .i64 (fixOf fs t).y]) ∧ Ext w3 wx)
  case first =>
    refine wp_region_held_drew (S := fun w' => Ext w3 w') (by kernel_rfl) (by (try dsimp only); exact (Ext.refl _).drew) (fun hHeld => ?_)
    (refine Ord.k 0 32 (v := ?_) ?_ ?_; rotate_left; (intro w h; (try dsimp only at h); go_simp; (try with_reducible rfl)); (try simp only [Act.put, Ord.a, Ord.b, Ord.c])); (refine Ord.k 1 33 (v := ?_) ?_ ?_; rotate_left; (intro w h; (try dsimp only at h); go_simp; (try with_reducible rfl)); (try simp only [Act.put, Ord.a, Ord.b, Ord.c])); (refine Ord.k 3 35 (v := ?_) ?_ ?_; rotate_left; (intro w h; (try dsimp only at h); go_simp; (try with_reducible rfl)); (try simp only [Act.put, Ord.a, Ord.b, Ord.c])); (refine Ord.k 4 36 (v := ?_) ?_ ?_; rotate_left; (intro w h; (try dsimp only at h); go_simp; (try with_reducible rfl)); (try simp only [Act.put, Ord.a, Ord.b, Ord.c]))
    have hE : Ext w3 w3.drew := (Ext.refl w3).drew
    obtain ⟨V0, hV0⟩ : ∃ V0, V0 = w3.drew := ⟨_, rfl⟩
    rw [← hV0] at hE hHeld ⊢
    clear hV0
    refine wpAnyH_ready (rs := [2, 6, 7]) (by kernel_rfl) (by simp) ?_
    refine (AllReadyH.cons rfl (fun K hK => ?_) (AllReadyH.cons rfl (fun K hK => ?_) (AllReadyH.cons rfl (fun K hK => ?_) AllReadyH.nil)))
    · go_simp
      go_at_call 34
      refine (PS1.out _ hE).mono ?_
      rintro e V1 ⟨rfl, hy⟩
      go_wp2_with fail
      have zy := Ext.size hy
      have hE' := hE.trans hy
      refine hK.out _ _ hE' (fun hHeld => ?_)
      clear hK K
      (try simp only [Act.put, Ord.a, Ord.b, Ord.c])
      replace hE := hE'
      clear hE' hy
      refine wpAnyH_ready (rs := [5, 6, 7]) (by kernel_rfl) (by simp) ?_
      refine (AllReadyH.cons rfl (fun K hK => ?_) (AllReadyH.cons rfl (fun K hK => ?_) (AllReadyH.cons rfl (fun K hK => ?_) AllReadyH.nil)))
      · go_simp
        go_at_call 34
        refine (PS2.out _ hE).mono ?_
        rintro e V2 ⟨rfl, hy⟩
        go_wp2_with fail
        have zy := Ext.size hy
        have hE' := hE.trans hy
        refine hK.out _ _ hE' (fun hHeld => ?_)
        clear hK K
        (try simp only [Act.put, Ord.a, Ord.b, Ord.c])
        replace hE := hE'
        clear hE' hy
        refine wpAnyH_ready (rs := [6, 7]) (by kernel_rfl) (by simp) ?_
        refine (AllReadyH.cons rfl (fun K hK => ?_) (AllReadyH.cons rfl (fun K hK => ?_) AllReadyH.nil))
        · go_simp
          have hE' : Ext w3 (V2.alloc (.cells #[.int .i64 0, .int .i64 0] 41)) := hE.alloc _
          refine hK.out _ _ hE' (fun hHeld => ?_)
          clear hK K
          (try simp only [Act.put, Ord.a, Ord.b, Ord.c])
          have PB := Box.new2 (w := V2) (x := .int .i64 0) (y := .int .i64 0) (t := 41) rfl
          have zV2 := Ext.size hE
          have yV2 : V2.heap.size < (V2.alloc (.cells #[.int .i64 0, .int .i64 0] 41)).heap.size := by simp
          replace hE := hE'
          clear hE'
          generalize V2.alloc (.cells #[.int .i64 0, .int .i64 0] 41) = V3 at *
          refine wpAnyH_ready (rs := [7]) (by kernel_rfl) (by simp) ?_
          refine (AllReadyH.cons rfl (fun K hK => ?_) AllReadyH.nil)
          · go_simp
            have hE' : Ext w3 (V3.alloc (.cells #[.int .i64 0, .int .i64 0] 41)) := hE.alloc _
            refine hK.out _ _ hE' (fun hHeld => ?_)
            clear hK K
            (try simp only [Act.put, Ord.a, Ord.b, Ord.c])
            have QB := Box.new2 (w := V3) (x := .int .i64 0) (y := .int .i64 0) (t := 41) rfl
            have zV3 := Ext.size hE
            have yV3 : V3.heap.size < (V3.alloc (.cells #[.int .i64 0, .int .i64 0] 41)).heap.size := by simp
            replace PB := PB.alloc (.cells #[.int .i64 0, .int .i64 0] 41)
            replace hE := hE'
            clear hE'
            generalize V3.alloc (.cells #[.int .i64 0, .int .i64 0] 41) = V4 at *
            obtain ⟨⟨r0, r1⟩, r2, r3⟩ := PB.two
            refine wpAnyH_ready (rs := [8]) (by kernel_rfl) (by simp) ?_
            refine AllReadyH.cons rfl (fun K hK => ?_) AllReadyH.nil
            go_simp
            have hE' : Ext w3 ((V4.setCell ⟨V2.heap.size, 0, none⟩ (.int .i64 (pkX fs f (legOf fs f)))).setCell ⟨V2.heap.size, 1, none⟩ (.int .i64 (pkY fs f (legOf fs f)))) := (hE.setNew (by simp; omega) _).setNew (by simp; omega) _
            refine hK.out _ _ hE' (fun hHeld => ?_)
            clear hK K r0 r1 r2 r3
            (try simp only [Act.put, Ord.a, Ord.b, Ord.c])
            replace PB := PB.set2 (u := .int .i64 (pkX fs f (legOf fs f))) (v := .int .i64 (pkY fs f (legOf fs f)))
            replace QB := QB.away2 (m := V2.heap.size) (i := 0) (j := 1) (u := .int .i64 (pkX fs f (legOf fs f))) (v := .int .i64 (pkY fs f (legOf fs f))) (by omega)
            replace hE := hE'
            clear hE'
            generalize (V4.setCell ⟨V2.heap.size, 0, none⟩ (.int .i64 (pkX fs f (legOf fs f)))).setCell ⟨V2.heap.size, 1, none⟩ (.int .i64 (pkY fs f (legOf fs f))) = V5 at *
            obtain ⟨⟨r0, r1⟩, r2, r3⟩ := QB.two
            refine wpAnyH_ready (rs := [9]) (by kernel_rfl) (by simp) ?_
            refine AllReadyH.cons rfl (fun K hK => ?_) AllReadyH.nil
            go_simp
            have hE' : Ext w3 ((V5.setCell ⟨V3.heap.size, 0, none⟩ (.int .i64 (pkX fs t (legOf fs t)))).setCell ⟨V3.heap.size, 1, none⟩ (.int .i64 (pkY fs t (legOf fs t)))) := (hE.setNew (by simp; omega) _).setNew (by simp; omega) _
            refine hK.out _ _ hE' (fun hHeld => ?_)
            clear hK K r0 r1 r2 r3
            (try simp only [Act.put, Ord.a, Ord.b, Ord.c])
            replace QB := QB.set2 (u := .int .i64 (pkX fs t (legOf fs t))) (v := .int .i64 (pkY fs t (legOf fs t)))
            replace PB := PB.away2 (m := V3.heap.size) (i := 0) (j := 1) (u := .int .i64 (pkX fs t (legOf fs t))) (v := .int .i64 (pkY fs t (legOf fs t))) (by omega)
            replace hE := hE'
            clear hE'
            generalize (V5.setCell ⟨V3.heap.size, 0, none⟩ (.int .i64 (pkX fs t (legOf fs t)))).setCell ⟨V3.heap.size, 1, none⟩ (.int .i64 (pkY fs t (legOf fs t))) = V6 at *
            refine wpAnyH_done (by kernel_rfl) ?_ _
            go_wp2_with fail
            go_meet
            exact ⟨⟨_, rfl, PB⟩, ⟨_, rfl, QB⟩, hE⟩
        · go_simp
          have hE' : Ext w3 (V2.alloc (.cells #[.int .i64 0, .int .i64 0] 41)) := hE.alloc _
          refine hK.out _ _ hE' (fun hHeld => ?_)
          clear hK K
          (try simp only [Act.put, Ord.a, Ord.b, Ord.c])
          have QB := Box.new2 (w := V2) (x := .int .i64 0) (y := .int .i64 0) (t := 41) rfl
          have zV2 := Ext.size hE
          have yV2 : V2.heap.size < (V2.alloc (.cells #[.int .i64 0, .int .i64 0] 41)).heap.size := by simp
          replace hE := hE'
          clear hE'
          generalize V2.alloc (.cells #[.int .i64 0, .int .i64 0] 41) = V3 at *
          refine wpAnyH_ready (rs := [6]) (by kernel_rfl) (by simp) ?_
          refine (AllReadyH.cons rfl (fun K hK => ?_) AllReadyH.nil)
          · go_simp
            have hE' : Ext w3 (V3.alloc (.cells #[.int .i64 0, .int .i64 0] 41)) := hE.alloc _
            refine hK.out _ _ hE' (fun hHeld => ?_)
            clear hK K
            (try simp only [Act.put, Ord.a, Ord.b, Ord.c])
            have PB := Box.new2 (w := V3) (x := .int .i64 0) (y := .int .i64 0) (t := 41) rfl
            have zV3 := Ext.size hE
            have yV3 : V3.heap.size < (V3.alloc (.cells #[.int .i64 0, .int .i64 0] 41)).heap.size := by simp
            replace QB := QB.alloc (.cells #[.int .i64 0, .int .i64 0] 41)
            replace hE := hE'
            clear hE'
            generalize V3.alloc (.cells #[.int .i64 0, .int .i64 0] 41) = V4 at *
            obtain ⟨⟨r0, r1⟩, r2, r3⟩ := PB.two
            refine wpAnyH_ready (rs := [8]) (by kernel_rfl) (by simp) ?_
            refine AllReadyH.cons rfl (fun K hK => ?_) AllReadyH.nil
            go_simp
            have hE' : Ext w3 ((V4.setCell ⟨V3.heap.size, 0, none⟩ (.int .i64 (pkX fs f (legOf fs f)))).setCell ⟨V3.heap.size, 1, none⟩ (.int .i64 (pkY fs f (legOf fs f)))) := (hE.setNew (by simp; omega) _).setNew (by simp; omega) _
            refine hK.out _ _ hE' (fun hHeld => ?_)
            clear hK K r0 r1 r2 r3
            (try simp only [Act.put, Ord.a, Ord.b, Ord.c])
            replace PB := PB.set2 (u := .int .i64 (pkX fs f (legOf fs f))) (v := .int .i64 (pkY fs f (legOf fs f)))
            replace QB := QB.away2 (m := V3.heap.size) (i := 0) (j := 1) (u := .int .i64 (pkX fs f (legOf fs f))) (v := .int .i64 (pkY fs f (legOf fs f))) (by omega)
            replace hE := hE'
            clear hE'
            generalize (V4.setCell ⟨V3.heap.size, 0, none⟩ (.int .i64 (pkX fs f (legOf fs f)))).setCell ⟨V3.heap.size, 1, none⟩ (.int .i64 (pkY fs f (legOf fs f))) = V5 at *
            obtain ⟨⟨r0, r1⟩, r2, r3⟩ := QB.two
            refine wpAnyH_ready (rs := [9]) (by kernel_rfl) (by simp) ?_
            refine AllReadyH.cons rfl (fun K hK => ?_) AllReadyH.nil
            go_simp
            have hE' : Ext w3 ((V5.setCell ⟨V2.heap.size, 0, none⟩ (.int .i64 (pkX fs t (legOf fs t)))).setCell ⟨V2.heap.size, 1, none⟩ (.int .i64 (pkY fs t (legOf fs t)))) := (hE.setNew (by simp; omega) _).setNew (by simp; omega) _
            refine hK.out _ _ hE' (fun hHeld => ?_)
            clear hK K r0 r1 r2 r3
            (try simp only [Act.put, Ord.a, Ord.b, Ord.c])
            replace QB := QB.set2 (u := .int .i64 (pkX fs t (legOf fs t))) (v := .int .i64 (pkY fs t (legOf fs t)))
            replace PB := PB.away2 (m := V2.heap.size) (i := 0) (j := 1) (u := .int .i64 (pkX fs t (legOf fs t))) (v := .int .i64 (pkY fs t (legOf fs t))) (by omega)
            replace hE := hE'
            clear hE'
            generalize (V5.setCell ⟨V2.heap.size, 0, none⟩ (.int .i64 (pkX fs t (legOf fs t)))).setCell ⟨V2.heap.size, 1, none⟩ (.int .i64 (pkY fs t (legOf fs t))) = V6 at *
            refine wpAnyH_done (by kernel_rfl) ?_ _
            go_wp2_with fail
            go_meet
            exact ⟨⟨_, rfl, PB⟩, ⟨_, rfl, QB⟩, hE⟩
      · go_simp
        have hE' : Ext w3 (V1.alloc (.cells #[.int .i64 0, .int .i64 0] 41)) := hE.alloc _
        refine hK.out _ _ hE' (fun hHeld => ?_)
        clear hK K
        (try simp only [Act.put, Ord.a, Ord.b, Ord.c])
        have PB := Box.new2 (w := V1) (x := .int .i64 0) (y := .int .i64 0) (t := 41) rfl
        have zV1 := Ext.size hE
        have yV1 : V1.heap.size < (V1.alloc (.cells #[.int .i64 0, .int .i64 0] 41)).heap.size := by simp
        replace hE := hE'
        clear hE'
        generalize V1.alloc (.cells #[.int .i64 0, .int .i64 0] 41) = V2 at *
        refine wpAnyH_ready (rs := [5, 7]) (by kernel_rfl) (by simp) ?_
        refine (AllReadyH.cons rfl (fun K hK => ?_) (AllReadyH.cons rfl (fun K hK => ?_) AllReadyH.nil))
        · go_simp
          go_at_call 34
          refine (PS2.out _ hE).mono ?_
          rintro e V3 ⟨rfl, hy⟩
          go_wp2_with fail
          have zy := Ext.size hy
          have hE' := hE.trans hy
          refine hK.out _ _ hE' (fun hHeld => ?_)
          clear hK K
          (try simp only [Act.put, Ord.a, Ord.b, Ord.c])
          replace PB := PB.ext hy
          replace hE := hE'
          clear hE' hy
          refine wpAnyH_ready (rs := [7]) (by kernel_rfl) (by simp) ?_
          refine (AllReadyH.cons rfl (fun K hK => ?_) AllReadyH.nil)
          · go_simp
            have hE' : Ext w3 (V3.alloc (.cells #[.int .i64 0, .int .i64 0] 41)) := hE.alloc _
            refine hK.out _ _ hE' (fun hHeld => ?_)
            clear hK K
            (try simp only [Act.put, Ord.a, Ord.b, Ord.c])
            have QB := Box.new2 (w := V3) (x := .int .i64 0) (y := .int .i64 0) (t := 41) rfl
            have zV3 := Ext.size hE
            have yV3 : V3.heap.size < (V3.alloc (.cells #[.int .i64 0, .int .i64 0] 41)).heap.size := by simp
            replace PB := PB.alloc (.cells #[.int .i64 0, .int .i64 0] 41)
            replace hE := hE'
            clear hE'
            generalize V3.alloc (.cells #[.int .i64 0, .int .i64 0] 41) = V4 at *
            obtain ⟨⟨r0, r1⟩, r2, r3⟩ := PB.two
            refine wpAnyH_ready (rs := [8]) (by kernel_rfl) (by simp) ?_
            refine AllReadyH.cons rfl (fun K hK => ?_) AllReadyH.nil
            go_simp
            have hE' : Ext w3 ((V4.setCell ⟨V1.heap.size, 0, none⟩ (.int .i64 (pkX fs f (legOf fs f)))).setCell ⟨V1.heap.size, 1, none⟩ (.int .i64 (pkY fs f (legOf fs f)))) := (hE.setNew (by simp; omega) _).setNew (by simp; omega) _
            refine hK.out _ _ hE' (fun hHeld => ?_)
            clear hK K r0 r1 r2 r3
            (try simp only [Act.put, Ord.a, Ord.b, Ord.c])
            replace PB := PB.set2 (u := .int .i64 (pkX fs f (legOf fs f))) (v := .int .i64 (pkY fs f (legOf fs f)))
            replace QB := QB.away2 (m := V1.heap.size) (i := 0) (j := 1) (u := .int .i64 (pkX fs f (legOf fs f))) (v := .int .i64 (pkY fs f (legOf fs f))) (by omega)
            replace hE := hE'
            clear hE'
            generalize (V4.setCell ⟨V1.heap.size, 0, none⟩ (.int .i64 (pkX fs f (legOf fs f)))).setCell ⟨V1.heap.size, 1, none⟩ (.int .i64 (pkY fs f (legOf fs f))) = V5 at *
            obtain ⟨⟨r0, r1⟩, r2, r3⟩ := QB.two
            refine wpAnyH_ready (rs := [9]) (by kernel_rfl) (by simp) ?_
            refine AllReadyH.cons rfl (fun K hK => ?_) AllReadyH.nil
            go_simp
            have hE' : Ext w3 ((V5.setCell ⟨V3.heap.size, 0, none⟩ (.int .i64 (pkX fs t (legOf fs t)))).setCell ⟨V3.heap.size, 1, none⟩ (.int .i64 (pkY fs t (legOf fs t)))) := (hE.setNew (by simp; omega) _).setNew (by simp; omega) _
            refine hK.out _ _ hE' (fun hHeld => ?_)
            clear hK K r0 r1 r2 r3
            (try simp only [Act.put, Ord.a, Ord.b, Ord.c])
            replace QB := QB.set2 (u := .int .i64 (pkX fs t (legOf fs t))) (v := .int .i64 (pkY fs t (legOf fs t)))
            replace PB := PB.away2 (m := V3.heap.size) (i := 0) (j := 1) (u := .int .i64 (pkX fs t (legOf fs t))) (v := .int .i64 (pkY fs t (legOf fs t))) (by omega)
            replace hE := hE'
            clear hE'
            generalize (V5.setCell ⟨V3.heap.size, 0, none⟩ (.int .i64 (pkX fs t (legOf fs t)))).setCell ⟨V3.heap.size, 1, none⟩ (.int .i64 (pkY fs t (legOf fs t))) = V6 at *
            refine wpAnyH_done (by kernel_rfl) ?_ _
            go_wp2_with fail
            go_meet
            exact ⟨⟨_, rfl, PB⟩, ⟨_, rfl, QB⟩, hE⟩
        · go_simp
          have hE' : Ext w3 (V2.alloc (.cells #[.int .i64 0, .int .i64 0] 41)) := hE.alloc _
          refine hK.out _ _ hE' (fun hHeld => ?_)
          clear hK K
          (try simp only [Act.put, Ord.a, Ord.b, Ord.c])
          have QB := Box.new2 (w := V2) (x := .int .i64 0) (y := .int .i64 0) (t := 41) rfl
          have zV2 := Ext.size hE
          have yV2 : V2.heap.size < (V2.alloc (.cells #[.int .i64 0, .int .i64 0] 41)).heap.size := by simp
          replace PB := PB.alloc (.cells #[.int .i64 0, .int .i64 0] 41)
          replace hE := hE'
          clear hE'
          generalize V2.alloc (.cells #[.int .i64 0, .int .i64 0] 41) = V3 at *
          refine wpAnyH_ready (rs := [5]) (by kernel_rfl) (by simp) ?_
          refine (AllReadyH.cons rfl (fun K hK => ?_) AllReadyH.nil)
          · go_simp
            go_at_call 34
            refine (PS2.out _ hE).mono ?_
            rintro e V4 ⟨rfl, hy⟩
            go_wp2_with fail
            have zy := Ext.size hy
            have hE' := hE.trans hy
            refine hK.out _ _ hE' (fun hHeld => ?_)
            clear hK K
            (try simp only [Act.put, Ord.a, Ord.b, Ord.c])
            replace PB := PB.ext hy
            replace QB := QB.ext hy
            replace hE := hE'
            clear hE' hy
            obtain ⟨⟨r0, r1⟩, r2, r3⟩ := PB.two
            refine wpAnyH_ready (rs := [8]) (by kernel_rfl) (by simp) ?_
            refine AllReadyH.cons rfl (fun K hK => ?_) AllReadyH.nil
            go_simp
            have hE' : Ext w3 ((V4.setCell ⟨V1.heap.size, 0, none⟩ (.int .i64 (pkX fs f (legOf fs f)))).setCell ⟨V1.heap.size, 1, none⟩ (.int .i64 (pkY fs f (legOf fs f)))) := (hE.setNew (by simp; omega) _).setNew (by simp; omega) _
            refine hK.out _ _ hE' (fun hHeld => ?_)
            clear hK K r0 r1 r2 r3
            (try simp only [Act.put, Ord.a, Ord.b, Ord.c])
            replace PB := PB.set2 (u := .int .i64 (pkX fs f (legOf fs f))) (v := .int .i64 (pkY fs f (legOf fs f)))
            replace QB := QB.away2 (m := V1.heap.size) (i := 0) (j := 1) (u := .int .i64 (pkX fs f (legOf fs f))) (v := .int .i64 (pkY fs f (legOf fs f))) (by omega)
            replace hE := hE'
            clear hE'
            generalize (V4.setCell ⟨V1.heap.size, 0, none⟩ (.int .i64 (pkX fs f (legOf fs f)))).setCell ⟨V1.heap.size, 1, none⟩ (.int .i64 (pkY fs f (legOf fs f))) = V5 at *
            obtain ⟨⟨r0, r1⟩, r2, r3⟩ := QB.two
            refine wpAnyH_ready (rs := [9]) (by kernel_rfl) (by simp) ?_
            refine AllReadyH.cons rfl (fun K hK => ?_) AllReadyH.nil
            go_simp
            have hE' : Ext w3 ((V5.setCell ⟨V2.heap.size, 0, none⟩ (.int .i64 (pkX fs t (legOf fs t)))).setCell ⟨V2.heap.size, 1, none⟩ (.int .i64 (pkY fs t (legOf fs t)))) := (hE.setNew (by simp; omega) _).setNew (by simp; omega) _
            refine hK.out _ _ hE' (fun hHeld => ?_)
            clear hK K r0 r1 r2 r3
            (try simp only [Act.put, Ord.a, Ord.b, Ord.c])
            replace QB := QB.set2 (u := .int .i64 (pkX fs t (legOf fs t))) (v := .int .i64 (pkY fs t (legOf fs t)))
            replace PB := PB.away2 (m := V2.heap.size) (i := 0) (j := 1) (u := .int .i64 (pkX fs t (legOf fs t))) (v := .int .i64 (pkY fs t (legOf fs t))) (by omega)
            replace hE := hE'
            clear hE'
            generalize (V5.setCell ⟨V2.heap.size, 0, none⟩ (.int .i64 (pkX fs t (legOf fs t)))).setCell ⟨V2.heap.size, 1, none⟩ (.int .i64 (pkY fs t (legOf fs t))) = V6 at *
            refine wpAnyH_done (by kernel_rfl) ?_ _
            go_wp2_with fail
            go_meet
            exact ⟨⟨_, rfl, PB⟩, ⟨_, rfl, QB⟩, hE⟩
      · go_simp
        have hE' : Ext w3 (V1.alloc (.cells #[.int .i64 0, .int .i64 0] 41)) := hE.alloc _
        refine hK.out _ _ hE' (fun hHeld => ?_)
        clear hK K
        (try simp only [Act.put, Ord.a, Ord.b, Ord.c])
        have QB := Box.new2 (w := V1) (x := .int .i64 0) (y := .int .i64 0) (t := 41) rfl
        have zV1 := Ext.size hE
        have yV1 : V1.heap.size < (V1.alloc (.cells #[.int .i64 0, .int .i64 0] 41)).heap.size := by simp
        replace hE := hE'
        clear hE'
        generalize V1.alloc (.cells #[.int .i64 0, .int .i64 0] 41) = V2 at *
        refine wpAnyH_ready (rs := [5, 6]) (by kernel_rfl) (by simp) ?_
        refine (AllReadyH.cons rfl (fun K hK => ?_) (AllReadyH.cons rfl (fun K hK => ?_) AllReadyH.nil))
        · go_simp
          go_at_call 34
          refine (PS2.out _ hE).mono ?_
          rintro e V3 ⟨rfl, hy⟩
          go_wp2_with fail
          have zy := Ext.size hy
          have hE' := hE.trans hy
          refine hK.out _ _ hE' (fun hHeld => ?_)
          clear hK K
          (try simp only [Act.put, Ord.a, Ord.b, Ord.c])
          replace QB := QB.ext hy
          replace hE := hE'
          clear hE' hy
          refine wpAnyH_ready (rs := [6]) (by kernel_rfl) (by simp) ?_
          refine (AllReadyH.cons rfl (fun K hK => ?_) AllReadyH.nil)
          · go_simp
            have hE' : Ext w3 (V3.alloc (.cells #[.int .i64 0, .int .i64 0] 41)) := hE.alloc _
            refine hK.out _ _ hE' (fun hHeld => ?_)
            clear hK K
            (try simp only [Act.put, Ord.a, Ord.b, Ord.c])
            have PB := Box.new2 (w := V3) (x := .int .i64 0) (y := .int .i64 0) (t := 41) rfl
            have zV3 := Ext.size hE
            have yV3 : V3.heap.size < (V3.alloc (.cells #[.int .i64 0, .int .i64 0] 41)).heap.size := by simp
            replace QB := QB.alloc (.cells #[.int .i64 0, .int .i64 0] 41)
            replace hE := hE'
            clear hE'
            generalize V3.alloc (.cells #[.int .i64 0, .int .i64 0] 41) = V4 at *
            obtain ⟨⟨r0, r1⟩, r2, r3⟩ := PB.two
            refine wpAnyH_ready (rs := [8]) (by kernel_rfl) (by simp) ?_
            refine AllReadyH.cons rfl (fun K hK => ?_) AllReadyH.nil
            go_simp
            have hE' : Ext w3 ((V4.setCell ⟨V3.heap.size, 0, none⟩ (.int .i64 (pkX fs f (legOf fs f)))).setCell ⟨V3.heap.size, 1, none⟩ (.int .i64 (pkY fs f (legOf fs f)))) := (hE.setNew (by simp; omega) _).setNew (by simp; omega) _
            refine hK.out _ _ hE' (fun hHeld => ?_)
            clear hK K r0 r1 r2 r3
            (try simp only [Act.put, Ord.a, Ord.b, Ord.c])
            replace PB := PB.set2 (u := .int .i64 (pkX fs f (legOf fs f))) (v := .int .i64 (pkY fs f (legOf fs f)))
            replace QB := QB.away2 (m := V3.heap.size) (i := 0) (j := 1) (u := .int .i64 (pkX fs f (legOf fs f))) (v := .int .i64 (pkY fs f (legOf fs f))) (by omega)
            replace hE := hE'
            clear hE'
            generalize (V4.setCell ⟨V3.heap.size, 0, none⟩ (.int .i64 (pkX fs f (legOf fs f)))).setCell ⟨V3.heap.size, 1, none⟩ (.int .i64 (pkY fs f (legOf fs f))) = V5 at *
            obtain ⟨⟨r0, r1⟩, r2, r3⟩ := QB.two
            refine wpAnyH_ready (rs := [9]) (by kernel_rfl) (by simp) ?_
            refine AllReadyH.cons rfl (fun K hK => ?_) AllReadyH.nil
            go_simp
            have hE' : Ext w3 ((V5.setCell ⟨V1.heap.size, 0, none⟩ (.int .i64 (pkX fs t (legOf fs t)))).setCell ⟨V1.heap.size, 1, none⟩ (.int .i64 (pkY fs t (legOf fs t)))) := (hE.setNew (by simp; omega) _).setNew (by simp; omega) _
            refine hK.out _ _ hE' (fun hHeld => ?_)
            clear hK K r0 r1 r2 r3
            (try simp only [Act.put, Ord.a, Ord.b, Ord.c])
            replace QB := QB.set2 (u := .int .i64 (pkX fs t (legOf fs t))) (v := .int .i64 (pkY fs t (legOf fs t)))
            replace PB := PB.away2 (m := V1.heap.size) (i := 0) (j := 1) (u := .int .i64 (pkX fs t (legOf fs t))) (v := .int .i64 (pkY fs t (legOf fs t))) (by omega)
            replace hE := hE'
            clear hE'
            generalize (V5.setCell ⟨V1.heap.size, 0, none⟩ (.int .i64 (pkX fs t (legOf fs t)))).setCell ⟨V1.heap.size, 1, none⟩ (.int .i64 (pkY fs t (legOf fs t))) = V6 at *
            refine wpAnyH_done (by kernel_rfl) ?_ _
            go_wp2_with fail
            go_meet
            exact ⟨⟨_, rfl, PB⟩, ⟨_, rfl, QB⟩, hE⟩
        · go_simp
          have hE' : Ext w3 (V2.alloc (.cells #[.int .i64 0, .int .i64 0] 41)) := hE.alloc _
          refine hK.out _ _ hE' (fun hHeld => ?_)
          clear hK K
          (try simp only [Act.put, Ord.a, Ord.b, Ord.c])
          have PB := Box.new2 (w := V2) (x := .int .i64 0) (y := .int .i64 0) (t := 41) rfl
          have zV2 := Ext.size hE
          have yV2 : V2.heap.size < (V2.alloc (.cells #[.int .i64 0, .int .i64 0] 41)).heap.size := by simp
          replace QB := QB.alloc (.cells #[.int .i64 0, .int .i64 0] 41)
          replace hE := hE'
          clear hE'
          generalize V2.alloc (.cells #[.int .i64 0, .int .i64 0] 41) = V3 at *
          refine wpAnyH_ready (rs := [5]) (by kernel_rfl) (by simp) ?_
          refine (AllReadyH.cons rfl (fun K hK => ?_) AllReadyH.nil)
          · go_simp
            go_at_call 34
            refine (PS2.out _ hE).mono ?_
            rintro e V4 ⟨rfl, hy⟩
            go_wp2_with fail
            have zy := Ext.size hy
            have hE' := hE.trans hy
            refine hK.out _ _ hE' (fun hHeld => ?_)
            clear hK K
            (try simp only [Act.put, Ord.a, Ord.b, Ord.c])
            replace PB := PB.ext hy
            replace QB := QB.ext hy
            replace hE := hE'
            clear hE' hy
            obtain ⟨⟨r0, r1⟩, r2, r3⟩ := PB.two
            refine wpAnyH_ready (rs := [8]) (by kernel_rfl) (by simp) ?_
            refine AllReadyH.cons rfl (fun K hK => ?_) AllReadyH.nil
            go_simp
            have hE' : Ext w3 ((V4.setCell ⟨V2.heap.size, 0, none⟩ (.int .i64 (pkX fs f (legOf fs f)))).setCell ⟨V2.heap.size, 1, none⟩ (.int .i64 (pkY fs f (legOf fs f)))) := (hE.setNew (by simp; omega) _).setNew (by simp; omega) _
            refine hK.out _ _ hE' (fun hHeld => ?_)
            clear hK K r0 r1 r2 r3
            (try simp only [Act.put, Ord.a, Ord.b, Ord.c])
            replace PB := PB.set2 (u := .int .i64 (pkX fs f (legOf fs f))) (v := .int .i64 (pkY fs f (legOf fs f)))
            replace QB := QB.away2 (m := V2.heap.size) (i := 0) (j := 1) (u := .int .i64 (pkX fs f (legOf fs f))) (v := .int .i64 (pkY fs f (legOf fs f))) (by omega)
            replace hE := hE'
            clear hE'
            generalize (V4.setCell ⟨V2.heap.size, 0, none⟩ (.int .i64 (pkX fs f (legOf fs f)))).setCell ⟨V2.heap.size, 1, none⟩ (.int .i64 (pkY fs f (legOf fs f))) = V5 at *
            obtain ⟨⟨r0, r1⟩, r2, r3⟩ := QB.two
            refine wpAnyH_ready (rs := [9]) (by kernel_rfl) (by simp) ?_
            refine AllReadyH.cons rfl (fun K hK => ?_) AllReadyH.nil
            go_simp
            have hE' : Ext w3 ((V5.setCell ⟨V1.heap.size, 0, none⟩ (.int .i64 (pkX fs t (legOf fs t)))).setCell ⟨V1.heap.size, 1, none⟩ (.int .i64 (pkY fs t (legOf fs t)))) := (hE.setNew (by simp; omega) _).setNew (by simp; omega) _
            refine hK.out _ _ hE' (fun hHeld => ?_)
            clear hK K r0 r1 r2 r3
            (try simp only [Act.put, Ord.a, Ord.b, Ord.c])
            replace QB := QB.set2 (u := .int .i64 (pkX fs t (legOf fs t))) (v := .int .i64 (pkY fs t (legOf fs t)))
            replace PB := PB.away2 (m := V1.heap.size) (i := 0) (j := 1) (u := .int .i64 (pkX fs t (legOf fs t))) (v := .int .i64 (pkY fs t (legOf fs t))) (by omega)
            replace hE := hE'
            clear hE'
            generalize (V5.setCell ⟨V1.heap.size, 0, none⟩ (.int .i64 (pkX fs t (legOf fs t)))).setCell ⟨V1.heap.size, 1, none⟩ (.int .i64 (pkY fs t (legOf fs t))) = V6 at *
            refine wpAnyH_done (by kernel_rfl) ?_ _
            go_wp2_with fail
            go_meet
            exact ⟨⟨_, rfl, PB⟩, ⟨_, rfl, QB⟩, hE⟩
    · go_simp
      have hE' : Ext w3 (V0.alloc (.cells #[.int .i64 0, .int .i64 0] 41)) := hE.alloc _
      refine hK.out _ _ hE' (fun hHeld => ?_)
      clear hK K
      (try simp only [Act.put, Ord.a, Ord.b, Ord.c])
      have PB := Box.new2 (w := V0) (x := .int .i64 0) (y := .int .i64 0) (t := 41) rfl
      have zV0 := Ext.size hE
      have yV0 : V0.heap.size < (V0.alloc (.cells #[.int .i64 0, .int .i64 0] 41)).heap.size := by simp
      replace hE := hE'
      clear hE'
      generalize V0.alloc (.cells #[.int .i64 0, .int .i64 0] 41) = V1 at *
      refine wpAnyH_ready (rs := [2, 7]) (by kernel_rfl) (by simp) ?_
      refine (AllReadyH.cons rfl (fun K hK => ?_) (AllReadyH.cons rfl (fun K hK => ?_) AllReadyH.nil))
      · go_simp
        go_at_call 34
        refine (PS1.out _ hE).mono ?_
        rintro e V2 ⟨rfl, hy⟩
        go_wp2_with fail
        have zy := Ext.size hy
        have hE' := hE.trans hy
        refine hK.out _ _ hE' (fun hHeld => ?_)
        clear hK K
        (try simp only [Act.put, Ord.a, Ord.b, Ord.c])
        replace PB := PB.ext hy
        replace hE := hE'
        clear hE' hy
        refine wpAnyH_ready (rs := [5, 7]) (by kernel_rfl) (by simp) ?_
        refine (AllReadyH.cons rfl (fun K hK => ?_) (AllReadyH.cons rfl (fun K hK => ?_) AllReadyH.nil))
        · go_simp
          go_at_call 34
          refine (PS2.out _ hE).mono ?_
          rintro e V3 ⟨rfl, hy⟩
          go_wp2_with fail
          have zy := Ext.size hy
          have hE' := hE.trans hy
          refine hK.out _ _ hE' (fun hHeld => ?_)
          clear hK K
          (try simp only [Act.put, Ord.a, Ord.b, Ord.c])
          replace PB := PB.ext hy
          replace hE := hE'
          clear hE' hy
          refine wpAnyH_ready (rs := [7]) (by kernel_rfl) (by simp) ?_
          refine (AllReadyH.cons rfl (fun K hK => ?_) AllReadyH.nil)
          · go_simp
            have hE' : Ext w3 (V3.alloc (.cells #[.int .i64 0, .int .i64 0] 41)) := hE.alloc _
            refine hK.out _ _ hE' (fun hHeld => ?_)
            clear hK K
            (try simp only [Act.put, Ord.a, Ord.b, Ord.c])
            have QB := Box.new2 (w := V3) (x := .int .i64 0) (y := .int .i64 0) (t := 41) rfl
            have zV3 := Ext.size hE
            have yV3 : V3.heap.size < (V3.alloc (.cells #[.int .i64 0, .int .i64 0] 41)).heap.size := by simp
            replace PB := PB.alloc (.cells #[.int .i64 0, .int .i64 0] 41)
            replace hE := hE'
            clear hE'
            generalize V3.alloc (.cells #[.int .i64 0, .int .i64 0] 41) = V4 at *
            obtain ⟨⟨r0, r1⟩, r2, r3⟩ := PB.two
            refine wpAnyH_ready (rs := [8]) (by kernel_rfl) (by simp) ?_
            refine AllReadyH.cons rfl (fun K hK => ?_) AllReadyH.nil
            go_simp
            have hE' : Ext w3 ((V4.setCell ⟨V0.heap.size, 0, none⟩ (.int .i64 (pkX fs f (legOf fs f)))).setCell ⟨V0.heap.size, 1, none⟩ (.int .i64 (pkY fs f (legOf fs f)))) := (hE.setNew (by simp; omega) _).setNew (by simp; omega) _
            refine hK.out _ _ hE' (fun hHeld => ?_)
            clear hK K r0 r1 r2 r3
            (try simp only [Act.put, Ord.a, Ord.b, Ord.c])
            replace PB := PB.set2 (u := .int .i64 (pkX fs f (legOf fs f))) (v := .int .i64 (pkY fs f (legOf fs f)))
            replace QB := QB.away2 (m := V0.heap.size) (i := 0) (j := 1) (u := .int .i64 (pkX fs f (legOf fs f))) (v := .int .i64 (pkY fs f (legOf fs f))) (by omega)
            replace hE := hE'
            clear hE'
            generalize (V4.setCell ⟨V0.heap.size, 0, none⟩ (.int .i64 (pkX fs f (legOf fs f)))).setCell ⟨V0.heap.size, 1, none⟩ (.int .i64 (pkY fs f (legOf fs f))) = V5 at *
            obtain ⟨⟨r0, r1⟩, r2, r3⟩ := QB.two
            refine wpAnyH_ready (rs := [9]) (by kernel_rfl) (by simp) ?_
            refine AllReadyH.cons rfl (fun K hK => ?_) AllReadyH.nil
            go_simp
            have hE' : Ext w3 ((V5.setCell ⟨V3.heap.size, 0, none⟩ (.int .i64 (pkX fs t (legOf fs t)))).setCell ⟨V3.heap.size, 1, none⟩ (.int .i64 (pkY fs t (legOf fs t)))) := (hE.setNew (by simp; omega) _).setNew (by simp; omega) _
            refine hK.out _ _ hE' (fun hHeld => ?_)
            clear hK K r0 r1 r2 r3
            (try simp only [Act.put, Ord.a, Ord.b, Ord.c])
            replace QB := QB.set2 (u := .int .i64 (pkX fs t (legOf fs t))) (v := .int .i64 (pkY fs t (legOf fs t)))
            replace PB := PB.away2 (m := V3.heap.size) (i := 0) (j := 1) (u := .int .i64 (pkX fs t (legOf fs t))) (v := .int .i64 (pkY fs t (legOf fs t))) (by omega)
            replace hE := hE'
            clear hE'
            generalize (V5.setCell ⟨V3.heap.size, 0, none⟩ (.int .i64 (pkX fs t (legOf fs t)))).setCell ⟨V3.heap.size, 1, none⟩ (.int .i64 (pkY fs t (legOf fs t))) = V6 at *
            refine wpAnyH_done (by kernel_rfl) ?_ _
            go_wp2_with fail
            go_meet
            exact ⟨⟨_, rfl, PB⟩, ⟨_, rfl, QB⟩, hE⟩
        · go_simp
          have hE' : Ext w3 (V2.alloc (.cells #[.int .i64 0, .int .i64 0] 41)) := hE.alloc _
          refine hK.out _ _ hE' (fun hHeld => ?_)
          clear hK K
          (try simp only [Act.put, Ord.a, Ord.b, Ord.c])
          have QB := Box.new2 (w := V2) (x := .int .i64 0) (y := .int .i64 0) (t := 41) rfl
          have zV2 := Ext.size hE
          have yV2 : V2.heap.size < (V2.alloc (.cells #[.int .i64 0, .int .i64 0] 41)).heap.size := by simp
          replace PB := PB.alloc (.cells #[.int .i64 0, .int .i64 0] 41)
          replace hE := hE'
          clear hE'
          generalize V2.alloc (.cells #[.int .i64 0, .int .i64 0] 41) = V3 at *
          refine wpAnyH_ready (rs := [5]) (by kernel_rfl) (by simp) ?_
          refine (AllReadyH.cons rfl (fun K hK => ?_) AllReadyH.nil)
          · go_simp
            go_at_call 34
            refine (PS2.out _ hE).mono ?_
            rintro e V4 ⟨rfl, hy⟩
            go_wp2_with fail
            have zy := Ext.size hy
            have hE' := hE.trans hy
            refine hK.out _ _ hE' (fun hHeld => ?_)
            clear hK K
            (try simp only [Act.put, Ord.a, Ord.b, Ord.c])
            replace PB := PB.ext hy
            replace QB := QB.ext hy
            replace hE := hE'
            clear hE' hy
            obtain ⟨⟨r0, r1⟩, r2, r3⟩ := PB.two
            refine wpAnyH_ready (rs := [8]) (by kernel_rfl) (by simp) ?_
            refine AllReadyH.cons rfl (fun K hK => ?_) AllReadyH.nil
            go_simp
            have hE' : Ext w3 ((V4.setCell ⟨V0.heap.size, 0, none⟩ (.int .i64 (pkX fs f (legOf fs f)))).setCell ⟨V0.heap.size, 1, none⟩ (.int .i64 (pkY fs f (legOf fs f)))) := (hE.setNew (by simp; omega) _).setNew (by simp; omega) _
            refine hK.out _ _ hE' (fun hHeld => ?_)
            clear hK K r0 r1 r2 r3
            (try simp only [Act.put, Ord.a, Ord.b, Ord.c])
            replace PB := PB.set2 (u := .int .i64 (pkX fs f (legOf fs f))) (v := .int .i64 (pkY fs f (legOf fs f)))
            replace QB := QB.away2 (m := V0.heap.size) (i := 0) (j := 1) (u := .int .i64 (pkX fs f (legOf fs f))) (v := .int .i64 (pkY fs f (legOf fs f))) (by omega)
            replace hE := hE'
            clear hE'
            generalize (V4.setCell ⟨V0.heap.size, 0, none⟩ (.int .i64 (pkX fs f (legOf fs f)))).setCell ⟨V0.heap.size, 1, none⟩ (.int .i64 (pkY fs f (legOf fs f))) = V5 at *
            obtain ⟨⟨r0, r1⟩, r2, r3⟩ := QB.two
            refine wpAnyH_ready (rs := [9]) (by kernel_rfl) (by simp) ?_
            refine AllReadyH.cons rfl (fun K hK => ?_) AllReadyH.nil
            go_simp
            have hE' : Ext w3 ((V5.setCell ⟨V2.heap.size, 0, none⟩ (.int .i64 (pkX fs t (legOf fs t)))).setCell ⟨V2.heap.size, 1, none⟩ (.int .i64 (pkY fs t (legOf fs t)))) := (hE.setNew (by simp; omega) _).setNew (by simp; omega) _
            refine hK.out _ _ hE' (fun hHeld => ?_)
            clear hK K r0 r1 r2 r3
            (try simp only [Act.put, Ord.a, Ord.b, Ord.c])
            replace QB := QB.set2 (u := .int .i64 (pkX fs t (legOf fs t))) (v := .int .i64 (pkY fs t (legOf fs t)))
            replace PB := PB.away2 (m := V2.heap.size) (i := 0) (j := 1) (u := .int .i64 (pkX fs t (legOf fs t))) (v := .int .i64 (pkY fs t (legOf fs t))) (by omega)
            replace hE := hE'
            clear hE'
            generalize (V5.setCell ⟨V2.heap.size, 0, none⟩ (.int .i64 (pkX fs t (legOf fs t)))).setCell ⟨V2.heap.size, 1, none⟩ (.int .i64 (pkY fs t (legOf fs t))) = V6 at *
            refine wpAnyH_done (by kernel_rfl) ?_ _
            go_wp2_with fail
            go_meet
            exact ⟨⟨_, rfl, PB⟩, ⟨_, rfl, QB⟩, hE⟩
      · go_simp
        have hE' : Ext w3 (V1.alloc (.cells #[.int .i64 0, .int .i64 0] 41)) := hE.alloc _
        refine hK.out _ _ hE' (fun hHeld => ?_)
        clear hK K
        (try simp only [Act.put, Ord.a, Ord.b, Ord.c])
        have QB := Box.new2 (w := V1) (x := .int .i64 0) (y := .int .i64 0) (t := 41) rfl
        have zV1 := Ext.size hE
        have yV1 : V1.heap.size < (V1.alloc (.cells #[.int .i64 0, .int .i64 0] 41)).heap.size := by simp
        replace PB := PB.alloc (.cells #[.int .i64 0, .int .i64 0] 41)
        replace hE := hE'
        clear hE'
        generalize V1.alloc (.cells #[.int .i64 0, .int .i64 0] 41) = V2 at *
        refine wpAnyH_ready (rs := [2]) (by kernel_rfl) (by simp) ?_
        refine (AllReadyH.cons rfl (fun K hK => ?_) AllReadyH.nil)
        · go_simp
          go_at_call 34
          refine (PS1.out _ hE).mono ?_
          rintro e V3 ⟨rfl, hy⟩
          go_wp2_with fail
          have zy := Ext.size hy
          have hE' := hE.trans hy
          refine hK.out _ _ hE' (fun hHeld => ?_)
          clear hK K
          (try simp only [Act.put, Ord.a, Ord.b, Ord.c])
          replace PB := PB.ext hy
          replace QB := QB.ext hy
          replace hE := hE'
          clear hE' hy
          refine wpAnyH_ready (rs := [5]) (by kernel_rfl) (by simp) ?_
          refine (AllReadyH.cons rfl (fun K hK => ?_) AllReadyH.nil)
          · go_simp
            go_at_call 34
            refine (PS2.out _ hE).mono ?_
            rintro e V4 ⟨rfl, hy⟩
            go_wp2_with fail
            have zy := Ext.size hy
            have hE' := hE.trans hy
            refine hK.out _ _ hE' (fun hHeld => ?_)
            clear hK K
            (try simp only [Act.put, Ord.a, Ord.b, Ord.c])
            replace PB := PB.ext hy
            replace QB := QB.ext hy
            replace hE := hE'
            clear hE' hy
            obtain ⟨⟨r0, r1⟩, r2, r3⟩ := PB.two
            refine wpAnyH_ready (rs := [8]) (by kernel_rfl) (by simp) ?_
            refine AllReadyH.cons rfl (fun K hK => ?_) AllReadyH.nil
            go_simp
            have hE' : Ext w3 ((V4.setCell ⟨V0.heap.size, 0, none⟩ (.int .i64 (pkX fs f (legOf fs f)))).setCell ⟨V0.heap.size, 1, none⟩ (.int .i64 (pkY fs f (legOf fs f)))) := (hE.setNew (by simp; omega) _).setNew (by simp; omega) _
            refine hK.out _ _ hE' (fun hHeld => ?_)
            clear hK K r0 r1 r2 r3
            (try simp only [Act.put, Ord.a, Ord.b, Ord.c])
            replace PB := PB.set2 (u := .int .i64 (pkX fs f (legOf fs f))) (v := .int .i64 (pkY fs f (legOf fs f)))
            replace QB := QB.away2 (m := V0.heap.size) (i := 0) (j := 1) (u := .int .i64 (pkX fs f (legOf fs f))) (v := .int .i64 (pkY fs f (legOf fs f))) (by omega)
            replace hE := hE'
            clear hE'
            generalize (V4.setCell ⟨V0.heap.size, 0, none⟩ (.int .i64 (pkX fs f (legOf fs f)))).setCell ⟨V0.heap.size, 1, none⟩ (.int .i64 (pkY fs f (legOf fs f))) = V5 at *
            obtain ⟨⟨r0, r1⟩, r2, r3⟩ := QB.two
            refine wpAnyH_ready (rs := [9]) (by kernel_rfl) (by simp) ?_
            refine AllReadyH.cons rfl (fun K hK => ?_) AllReadyH.nil
            go_simp
            have hE' : Ext w3 ((V5.setCell ⟨V1.heap.size, 0, none⟩ (.int .i64 (pkX fs t (legOf fs t)))).setCell ⟨V1.heap.size, 1, none⟩ (.int .i64 (pkY fs t (legOf fs t)))) := (hE.setNew (by simp; omega) _).setNew (by simp; omega) _
            refine hK.out _ _ hE' (fun hHeld => ?_)
            clear hK K r0 r1 r2 r3
            (try simp only [Act.put, Ord.a, Ord.b, Ord.c])
            replace QB := QB.set2 (u := .int .i64 (pkX fs t (legOf fs t))) (v := .int .i64 (pkY fs t (legOf fs t)))
            replace PB := PB.away2 (m := V1.heap.size) (i := 0) (j := 1) (u := .int .i64 (pkX fs t (legOf fs t))) (v := .int .i64 (pkY fs t (legOf fs t))) (by omega)
            replace hE := hE'
            clear hE'
            generalize (V5.setCell ⟨V1.heap.size, 0, none⟩ (.int .i64 (pkX fs t (legOf fs t)))).setCell ⟨V1.heap.size, 1, none⟩ (.int .i64 (pkY fs t (legOf fs t))) = V6 at *
            refine wpAnyH_done (by kernel_rfl) ?_ _
            go_wp2_with fail
            go_meet
            exact ⟨⟨_, rfl, PB⟩, ⟨_, rfl, QB⟩, hE⟩
    · go_simp
      have hE' : Ext w3 (V0.alloc (.cells #[.int .i64 0, .int .i64 0] 41)) := hE.alloc _
      refine hK.out _ _ hE' (fun hHeld => ?_)
      clear hK K
      (try simp only [Act.put, Ord.a, Ord.b, Ord.c])
      have QB := Box.new2 (w := V0) (x := .int .i64 0) (y := .int .i64 0) (t := 41) rfl
      have zV0 := Ext.size hE
      have yV0 : V0.heap.size < (V0.alloc (.cells #[.int .i64 0, .int .i64 0] 41)).heap.size := by simp
      replace hE := hE'
      clear hE'
      generalize V0.alloc (.cells #[.int .i64 0, .int .i64 0] 41) = V1 at *
      refine wpAnyH_ready (rs := [2, 6]) (by kernel_rfl) (by simp) ?_
      refine (AllReadyH.cons rfl (fun K hK => ?_) (AllReadyH.cons rfl (fun K hK => ?_) AllReadyH.nil))
      · go_simp
        go_at_call 34
        refine (PS1.out _ hE).mono ?_
        rintro e V2 ⟨rfl, hy⟩
        go_wp2_with fail
        have zy := Ext.size hy
        have hE' := hE.trans hy
        refine hK.out _ _ hE' (fun hHeld => ?_)
        clear hK K
        (try simp only [Act.put, Ord.a, Ord.b, Ord.c])
        replace QB := QB.ext hy
        replace hE := hE'
        clear hE' hy
        refine wpAnyH_ready (rs := [5, 6]) (by kernel_rfl) (by simp) ?_
        refine (AllReadyH.cons rfl (fun K hK => ?_) (AllReadyH.cons rfl (fun K hK => ?_) AllReadyH.nil))
        · go_simp
          go_at_call 34
          refine (PS2.out _ hE).mono ?_
          rintro e V3 ⟨rfl, hy⟩
          go_wp2_with fail
          have zy := Ext.size hy
          have hE' := hE.trans hy
          refine hK.out _ _ hE' (fun hHeld => ?_)
          clear hK K
          (try simp only [Act.put, Ord.a, Ord.b, Ord.c])
          replace QB := QB.ext hy
          replace hE := hE'
          clear hE' hy
          refine wpAnyH_ready (rs := [6]) (by kernel_rfl) (by simp) ?_
          refine (AllReadyH.cons rfl (fun K hK => ?_) AllReadyH.nil)
          · go_simp
            have hE' : Ext w3 (V3.alloc (.cells #[.int .i64 0, .int .i64 0] 41)) := hE.alloc _
            refine hK.out _ _ hE' (fun hHeld => ?_)
            clear hK K
            (try simp only [Act.put, Ord.a, Ord.b, Ord.c])
            have PB := Box.new2 (w := V3) (x := .int .i64 0) (y := .int .i64 0) (t := 41) rfl
            have zV3 := Ext.size hE
            have yV3 : V3.heap.size < (V3.alloc (.cells #[.int .i64 0, .int .i64 0] 41)).heap.size := by simp
            replace QB := QB.alloc (.cells #[.int .i64 0, .int .i64 0] 41)
            replace hE := hE'
            clear hE'
            generalize V3.alloc (.cells #[.int .i64 0, .int .i64 0] 41) = V4 at *
            obtain ⟨⟨r0, r1⟩, r2, r3⟩ := PB.two
            refine wpAnyH_ready (rs := [8]) (by kernel_rfl) (by simp) ?_
            refine AllReadyH.cons rfl (fun K hK => ?_) AllReadyH.nil
            go_simp
            have hE' : Ext w3 ((V4.setCell ⟨V3.heap.size, 0, none⟩ (.int .i64 (pkX fs f (legOf fs f)))).setCell ⟨V3.heap.size, 1, none⟩ (.int .i64 (pkY fs f (legOf fs f)))) := (hE.setNew (by simp; omega) _).setNew (by simp; omega) _
            refine hK.out _ _ hE' (fun hHeld => ?_)
            clear hK K r0 r1 r2 r3
            (try simp only [Act.put, Ord.a, Ord.b, Ord.c])
            replace PB := PB.set2 (u := .int .i64 (pkX fs f (legOf fs f))) (v := .int .i64 (pkY fs f (legOf fs f)))
            replace QB := QB.away2 (m := V3.heap.size) (i := 0) (j := 1) (u := .int .i64 (pkX fs f (legOf fs f))) (v := .int .i64 (pkY fs f (legOf fs f))) (by omega)
            replace hE := hE'
            clear hE'
            generalize (V4.setCell ⟨V3.heap.size, 0, none⟩ (.int .i64 (pkX fs f (legOf fs f)))).setCell ⟨V3.heap.size, 1, none⟩ (.int .i64 (pkY fs f (legOf fs f))) = V5 at *
            obtain ⟨⟨r0, r1⟩, r2, r3⟩ := QB.two
            refine wpAnyH_ready (rs := [9]) (by kernel_rfl) (by simp) ?_
            refine AllReadyH.cons rfl (fun K hK => ?_) AllReadyH.nil
            go_simp
            have hE' : Ext w3 ((V5.setCell ⟨V0.heap.size, 0, none⟩ (.int .i64 (pkX fs t (legOf fs t)))).setCell ⟨V0.heap.size, 1, none⟩ (.int .i64 (pkY fs t (legOf fs t)))) := (hE.setNew (by simp; omega) _).setNew (by simp; omega) _
            refine hK.out _ _ hE' (fun hHeld => ?_)
            clear hK K r0 r1 r2 r3
            (try simp only [Act.put, Ord.a, Ord.b, Ord.c])
            replace QB := QB.set2 (u := .int .i64 (pkX fs t (legOf fs t))) (v := .int .i64 (pkY fs t (legOf fs t)))
            replace PB := PB.away2 (m := V0.heap.size) (i := 0) (j := 1) (u := .int .i64 (pkX fs t (legOf fs t))) (v := .int .i64 (pkY fs t (legOf fs t))) (by omega)
            replace hE := hE'
            clear hE'
            generalize (V5.setCell ⟨V0.heap.size, 0, none⟩ (.int .i64 (pkX fs t (legOf fs t)))).setCell ⟨V0.heap.size, 1, none⟩ (.int .i64 (pkY fs t (legOf fs t))) = V6 at *
            refine wpAnyH_done (by kernel_rfl) ?_ _
            go_wp2_with fail
            go_meet
            exact ⟨⟨_, rfl, PB⟩, ⟨_, rfl, QB⟩, hE⟩
        · go_simp
          have hE' : Ext w3 (V2.alloc (.cells #[.int .i64 0, .int .i64 0] 41)) := hE.alloc _
          refine hK.out _ _ hE' (fun hHeld => ?_)
          clear hK K
          (try simp only [Act.put, Ord.a, Ord.b, Ord.c])
          have PB := Box.new2 (w := V2) (x := .int .i64 0) (y := .int .i64 0) (t := 41) rfl
          have zV2 := Ext.size hE
          have yV2 : V2.heap.size < (V2.alloc (.cells #[.int .i64 0, .int .i64 0] 41)).heap.size := by simp
          replace QB := QB.alloc (.cells #[.int .i64 0, .int .i64 0] 41)
          replace hE := hE'
          clear hE'
          generalize V2.alloc (.cells #[.int .i64 0, .int .i64 0] 41) = V3 at *
          refine wpAnyH_ready (rs := [5]) (by kernel_rfl) (by simp) ?_
          refine (AllReadyH.cons rfl (fun K hK => ?_) AllReadyH.nil)
          · go_simp
            go_at_call 34
            refine (PS2.out _ hE).mono ?_
            rintro e V4 ⟨rfl, hy⟩
            go_wp2_with fail
            have zy := Ext.size hy
            have hE' := hE.trans hy
            refine hK.out _ _ hE' (fun hHeld => ?_)
            clear hK K
            (try simp only [Act.put, Ord.a, Ord.b, Ord.c])
            replace PB := PB.ext hy
            replace QB := QB.ext hy
            replace hE := hE'
            clear hE' hy
            obtain ⟨⟨r0, r1⟩, r2, r3⟩ := PB.two
            refine wpAnyH_ready (rs := [8]) (by kernel_rfl) (by simp) ?_
            refine AllReadyH.cons rfl (fun K hK => ?_) AllReadyH.nil
            go_simp
            have hE' : Ext w3 ((V4.setCell ⟨V2.heap.size, 0, none⟩ (.int .i64 (pkX fs f (legOf fs f)))).setCell ⟨V2.heap.size, 1, none⟩ (.int .i64 (pkY fs f (legOf fs f)))) := (hE.setNew (by simp; omega) _).setNew (by simp; omega) _
            refine hK.out _ _ hE' (fun hHeld => ?_)
            clear hK K r0 r1 r2 r3
            (try simp only [Act.put, Ord.a, Ord.b, Ord.c])
            replace PB := PB.set2 (u := .int .i64 (pkX fs f (legOf fs f))) (v := .int .i64 (pkY fs f (legOf fs f)))
            replace QB := QB.away2 (m := V2.heap.size) (i := 0) (j := 1) (u := .int .i64 (pkX fs f (legOf fs f))) (v := .int .i64 (pkY fs f (legOf fs f))) (by omega)
            replace hE := hE'
            clear hE'
            generalize (V4.setCell ⟨V2.heap.size, 0, none⟩ (.int .i64 (pkX fs f (legOf fs f)))).setCell ⟨V2.heap.size, 1, none⟩ (.int .i64 (pkY fs f (legOf fs f))) = V5 at *
            obtain ⟨⟨r0, r1⟩, r2, r3⟩ := QB.two
            refine wpAnyH_ready (rs := [9]) (by kernel_rfl) (by simp) ?_
            refine AllReadyH.cons rfl (fun K hK => ?_) AllReadyH.nil
            go_simp
            have hE' : Ext w3 ((V5.setCell ⟨V0.heap.size, 0, none⟩ (.int .i64 (pkX fs t (legOf fs t)))).setCell ⟨V0.heap.size, 1, none⟩ (.int .i64 (pkY fs t (legOf fs t)))) := (hE.setNew (by simp; omega) _).setNew (by simp; omega) _
            refine hK.out _ _ hE' (fun hHeld => ?_)
            clear hK K r0 r1 r2 r3
            (try simp only [Act.put, Ord.a, Ord.b, Ord.c])
            replace QB := QB.set2 (u := .int .i64 (pkX fs t (legOf fs t))) (v := .int .i64 (pkY fs t (legOf fs t)))
            replace PB := PB.away2 (m := V0.heap.size) (i := 0) (j := 1) (u := .int .i64 (pkX fs t (legOf fs t))) (v := .int .i64 (pkY fs t (legOf fs t))) (by omega)
            replace hE := hE'
            clear hE'
            generalize (V5.setCell ⟨V0.heap.size, 0, none⟩ (.int .i64 (pkX fs t (legOf fs t)))).setCell ⟨V0.heap.size, 1, none⟩ (.int .i64 (pkY fs t (legOf fs t))) = V6 at *
            refine wpAnyH_done (by kernel_rfl) ?_ _
            go_wp2_with fail
            go_meet
            exact ⟨⟨_, rfl, PB⟩, ⟨_, rfl, QB⟩, hE⟩
      · go_simp
        have hE' : Ext w3 (V1.alloc (.cells #[.int .i64 0, .int .i64 0] 41)) := hE.alloc _
        refine hK.out _ _ hE' (fun hHeld => ?_)
        clear hK K
        (try simp only [Act.put, Ord.a, Ord.b, Ord.c])
        have PB := Box.new2 (w := V1) (x := .int .i64 0) (y := .int .i64 0) (t := 41) rfl
        have zV1 := Ext.size hE
        have yV1 : V1.heap.size < (V1.alloc (.cells #[.int .i64 0, .int .i64 0] 41)).heap.size := by simp
        replace QB := QB.alloc (.cells #[.int .i64 0, .int .i64 0] 41)
        replace hE := hE'
        clear hE'
        generalize V1.alloc (.cells #[.int .i64 0, .int .i64 0] 41) = V2 at *
        refine wpAnyH_ready (rs := [2]) (by kernel_rfl) (by simp) ?_
        refine (AllReadyH.cons rfl (fun K hK => ?_) AllReadyH.nil)
        · go_simp
          go_at_call 34
          refine (PS1.out _ hE).mono ?_
          rintro e V3 ⟨rfl, hy⟩
          go_wp2_with fail
          have zy := Ext.size hy
          have hE' := hE.trans hy
          refine hK.out _ _ hE' (fun hHeld => ?_)
          clear hK K
          (try simp only [Act.put, Ord.a, Ord.b, Ord.c])
          replace PB := PB.ext hy
          replace QB := QB.ext hy
          replace hE := hE'
          clear hE' hy
          refine wpAnyH_ready (rs := [5]) (by kernel_rfl) (by simp) ?_
          refine (AllReadyH.cons rfl (fun K hK => ?_) AllReadyH.nil)
          · go_simp
            go_at_call 34
            refine (PS2.out _ hE).mono ?_
            rintro e V4 ⟨rfl, hy⟩
            go_wp2_with fail
            have zy := Ext.size hy
            have hE' := hE.trans hy
            refine hK.out _ _ hE' (fun hHeld => ?_)
            clear hK K
            (try simp only [Act.put, Ord.a, Ord.b, Ord.c])
            replace PB := PB.ext hy
            replace QB := QB.ext hy
            replace hE := hE'
            clear hE' hy
            obtain ⟨⟨r0, r1⟩, r2, r3⟩ := PB.two
            refine wpAnyH_ready (rs := [8]) (by kernel_rfl) (by simp) ?_
            refine AllReadyH.cons rfl (fun K hK => ?_) AllReadyH.nil
            go_simp
            have hE' : Ext w3 ((V4.setCell ⟨V1.heap.size, 0, none⟩ (.int .i64 (pkX fs f (legOf fs f)))).setCell ⟨V1.heap.size, 1, none⟩ (.int .i64 (pkY fs f (legOf fs f)))) := (hE.setNew (by simp; omega) _).setNew (by simp; omega) _
            refine hK.out _ _ hE' (fun hHeld => ?_)
            clear hK K r0 r1 r2 r3
            (try simp only [Act.put, Ord.a, Ord.b, Ord.c])
            replace PB := PB.set2 (u := .int .i64 (pkX fs f (legOf fs f))) (v := .int .i64 (pkY fs f (legOf fs f)))
            replace QB := QB.away2 (m := V1.heap.size) (i := 0) (j := 1) (u := .int .i64 (pkX fs f (legOf fs f))) (v := .int .i64 (pkY fs f (legOf fs f))) (by omega)
            replace hE := hE'
            clear hE'
            generalize (V4.setCell ⟨V1.heap.size, 0, none⟩ (.int .i64 (pkX fs f (legOf fs f)))).setCell ⟨V1.heap.size, 1, none⟩ (.int .i64 (pkY fs f (legOf fs f))) = V5 at *
            obtain ⟨⟨r0, r1⟩, r2, r3⟩ := QB.two
            refine wpAnyH_ready (rs := [9]) (by kernel_rfl) (by simp) ?_
            refine AllReadyH.cons rfl (fun K hK => ?_) AllReadyH.nil
            go_simp
            have hE' : Ext w3 ((V5.setCell ⟨V0.heap.size, 0, none⟩ (.int .i64 (pkX fs t (legOf fs t)))).setCell ⟨V0.heap.size, 1, none⟩ (.int .i64 (pkY fs t (legOf fs t)))) := (hE.setNew (by simp; omega) _).setNew (by simp; omega) _
            refine hK.out _ _ hE' (fun hHeld => ?_)
            clear hK K r0 r1 r2 r3
            (try simp only [Act.put, Ord.a, Ord.b, Ord.c])
            replace QB := QB.set2 (u := .int .i64 (pkX fs t (legOf fs t))) (v := .int .i64 (pkY fs t (legOf fs t)))
            replace PB := PB.away2 (m := V0.heap.size) (i := 0) (j := 1) (u := .int .i64 (pkX fs t (legOf fs t))) (v := .int .i64 (pkY fs t (legOf fs t))) (by omega)
            replace hE := hE'
            clear hE'
            generalize (V5.setCell ⟨V0.heap.size, 0, none⟩ (.int .i64 (pkX fs t (legOf fs t)))).setCell ⟨V0.heap.size, 1, none⟩ (.int .i64 (pkY fs t (legOf fs t))) = V6 at *
            refine wpAnyH_done (by kernel_rfl) ?_ _
            go_wp2_with fail
            go_meet
            exact ⟨⟨_, rfl, PB⟩, ⟨_, rfl, QB⟩, hE⟩
  case rest =>
    obtain ⟨⟨B8, rfl, H8⟩, ⟨B9, rfl, H9⟩, hx⟩ := hcut
    obtain ⟨⟨f0, f1⟩, _⟩ := H8.two
    have X5 := Lib.hid (X.out.trans hx)
    have R5 := Lib.hid (R.out.ext hx)
    have K9 := Lib.hid H9
    have z5 := Below.size hx
    clear H8 H9 hx X R e0 PS1 PS2
    have O0 : OwnF (wc.alloc (.cells #[.int .i64 (fixOf fs f).t, .int .i64 (fixOf fs f).x, .int .i64 (fixOf fs f).y] 45)) wc.heap.size (.slice (some ⟨wc.heap.size, 0, none⟩) 1 1) [fixOf fs f] := by
      have := World.ownsRow_lit (base := wc.heap.size) (e := 45) (size := 3) wc #[.int .i64 (fixOf fs f).t, .int .i64 (fixOf fs f).x, .int .i64 (fixOf fs f).y] 1 (by omega) (by unfold maxLen; omega) (by simp)
      simpa [OwnF, cellsF] using this
    replace O0 : OwnF (wc.alloc (.cells #[.int .i64 f, .int .i64 (fixOf fs f).x, .int .i64 (fixOf fs f).y] 45)) wc.heap.size (.slice (some ⟨wc.heap.size, 0, none⟩) 1 1) [fixOf fs f] := O0
    have hm := HF.out.1
    unfold maxLen at hm
    have hb : ∃ b off, a = some ⟨b, off, none⟩ ∧ ∀ i, i < fs.length → At W0 b (off + i * 3) (fx fs i) := by
      rcases HF.out.2 with h | h
      · rw [h] at h0; simp at h0
      · exact h
    obtain ⟨b, off, rfl, hb⟩ := hb
    have HB := Lib.hid hb
    clear hb
    have hT : (fixOf fs f).t = f := rfl
    go_wp2
    go_loopw [10, 11] (fun o n wr => RelD wc fs f t o n wr) (fun o n _ => fs.length - (intOf n).toNat)
    case atStart => exact ⟨0, by go_num, by omega, by simpa [midF] using O0, (Ext.refl _).alloc _⟩
    case round =>
      obtain ⟨i, rfl, hi, O, hx⟩ := hrel
      have HO := Lib.hid O
      have HC := Lib.hid hx
      have HX := Lib.hid (X5.out.trans hx)
      have b2 := bt _ HX.out
      clear O hx
      have j0 : (0 : Int) ≤ (i : Int) := by omega
      by_cases hk : i < fs.length
      · obtain ⟨c0, c1, c2⟩ := HB.out i hk
        replace c0 := HX.out.cellOf c0
        replace c1 := HX.out.cellOf c1
        replace c2 := HX.out.cellOf c2
        have j1 : (i : Int) < (fs.length : Int) := by omega
        have T7 : IntKind.i64.wrap ((i : Int) + 1) = (i : Int) + 1 := IntWalk.i64_in _ (by omega)
        have HL := midF_len fs f t i
        by_cases h1 : f < (fx fs i).t
        · have d1 : decide (f < (fx fs i).t) = true := decide_eq_true h1
          by_cases h2 : (fx fs i).t < t
          · have d2 : decide ((fx fs i).t < t) = true := decide_eq_true h2
            have HM := Lib.hid (midF_yes hk h1 h2)
            obtain ⟨gs, hgs⟩ : ∃ gs, gs = fixOf fs f :: midF (fs.take i) f t := ⟨_, rfl⟩
            rw [← hgs] at HO
            have HG := Lib.hid (show fixOf fs f :: midF (fs.take (i + 1)) f t = gs ++ [fx fs i] by rw [HM.out, hgs]; rfl)
            have hgl : gs.length ≤ i + 1 := by rw [hgs]; simp; omega
            have zr := Below.size HC.out
            have OA := (HO.out.ext ((Ext.refl wr).alloc (.cells #[.int .i64 (fx fs i).t, .int .i64 (fx fs i).x, .int .i64 (fx fs i).y] 45)))
            have one3 := one_cells (w := wr) (t := (fx fs i).t) (x := (fx fs i).x) (y := (fx fs i).y) (ty := 45)
            clear hgs HM
            obtain ⟨i0, hin, hz0', hz1', hz2'⟩ := info_parts fixInfo
            go_wp2_with (at_builtin; refine wpList_append_own _ rfl _ _ 26 rfl wc.heap.size 45 i0 (Fx 0 0 0) 3 24 Try.underlying26 hin hz0' hz1' hz2' rfl (by decide) _ gs.length _ rfl OA ⟨wr.heap.size, 0, none⟩ 1 1 [.int .i64 (fx fs i).t, .int .i64 (fx fs i).x, .int .i64 (fx fs i).y] rfl rfl one3 one_ones (by unfold maxLen; omega) (by omega) (by simp; omega) ?_; intro v' w5 hown hgrow hnil)
            have O5 := Lib.hid (OwnF.snoc hown)
            have X6 := Lib.hid (grown_ext (w0 := wc) OA hgrow (by omega) (HC.out.alloc _))
            clear hown hgrow hnil OA
            go_roundw
            case rel => exact ⟨i + 1, by go_num, by omega, by rw [HG.out]; exact O5.out, X6.out⟩
            case measure => simp [intOf]; omega
          · have d2 : decide ((fx fs i).t < t) = false := decide_eq_false h2
            have HM := Lib.hid (midF_no (f := f) (t := t) hk (fun h => h2 h.2))
            go_wp2
            go_roundw
            case rel => exact ⟨i + 1, by go_num, by omega, by rw [HM.out]; exact HO.out, HC.out⟩
            case measure => simp [intOf]; omega
        · have d1 : decide (f < (fx fs i).t) = false := decide_eq_false h1
          have HM := Lib.hid (midF_no (f := f) (t := t) hk (fun h => h1 h.1))
          go_wp2
          go_roundw
          case rel => exact ⟨i + 1, by go_num, by omega, by rw [HM.out]; exact HO.out, HC.out⟩
          case measure => simp [intOf]; omega
      · obtain rfl : i = fs.length := by omega
        have j2 : ¬ ((fs.length : Int) < (fs.length : Int)) := by omega
        rw [List.take_length] at HO
        obtain ⟨gs, hgs⟩ : ∃ gs, gs = fixOf fs f :: midF fs f t := ⟨_, rfl⟩
        rw [← hgs] at HO
        have HG := Lib.hid (show cutF fs f t = gs ++ [fixOf fs t] by rw [hgs]; rfl)
        have hgl : gs.length ≤ fs.length + 1 := by
          have := midF_len fs f t fs.length
          rw [List.take_length] at this
          rw [hgs]; simp; omega
        have zr := Below.size HC.out
        clear hgs
        have OA := HO.out.ext ((Ext.refl _).alloc (.cells #[.int .i64 (fixOf fs t).t, .int .i64 (fixOf fs t).x, .int .i64 (fixOf fs t).y] 45))
        have one3 := one_cells (w := wr) (t := (fixOf fs t).t) (x := (fixOf fs t).x) (y := (fixOf fs t).y) (ty := 45)
        obtain ⟨⟨g0, g1⟩, _⟩ := (K9.out.ext HC.out).two
        obtain ⟨i0, hin, hz0', hz1', hz2'⟩ := info_parts fixInfo
        go_wp2_with (at_builtin; refine wpList_append_own _ rfl _ _ 26 rfl wc.heap.size 45 i0 (Fx 0 0 0) 3 24 Try.underlying26 hin hz0' hz1' hz2' rfl (by decide) _ gs.length _ rfl OA ⟨wr.heap.size, 0, none⟩ 1 1 [.int .i64 (fixOf fs t).t, .int .i64 (fixOf fs t).x, .int .i64 (fixOf fs t).y] rfl rfl one3 one_ones (by unfold maxLen; omega) (by omega) (by simp; omega) ?_; intro v' w5 hown hgrow hnil; have O5 : OwnF w5 wc.heap.size v' (gs ++ [fixOf fs t]) := OwnF.snoc hown; have X6 := Lib.hid (grown_ext (w0 := wc) OA hgrow (by omega) (HC.out.alloc _)); have R6 := Lib.hid (R5.out.ext X6.out); (obtain ⟨a5, cap5, rfl, hc5, hF5, _⟩ := O5.fxs); replace O5 := Lib.hid O5; obtain ⟨r0, rf⟩ := R6.out 0 _ rfl; clear hown hgrow hnil OA)
        have q0 : (w5.setCell ⟨w.heap.size + 1, 0, none⟩ (.slice a5 (gs ++ [fixOf fs t]).length cap5)).cell? ⟨w.heap.size + 1, 0, none⟩ = some (.slice a5 (gs ++ [fixOf fs t]).length cap5) := World.cell?_setCell_same _ _ _ r0
        have OF := OwnF.mono (b2 := w.heap.size) (O5.out.chg ((Chg.refl (w.heap.size + 1) _).setCell 0 (.slice a5 (gs ++ [fixOf fs t]).length cap5)) (O5.out.block (by omega))) (by omega)
        have eL : (gs ++ [fixOf fs t]).length = gs.length + 1 := by simp
        rw [eL] at OF q0
        rw [← HG.out] at OF
        have XF := (HW.out.trans (X5.out.trans X6.out)).setNew (p := ⟨w.heap.size + 1, 0, none⟩) (by simp) (.slice a5 (gs.length + 1) cap5)
        clear HG eL hgl O5 hc5 hF5
        generalize gs.length + 1 = L at *
        exact bodyPost_ret (v := .tuple #[Tr (.slice a5 L cap5), .int .i64 0]) (by simp [results, Try.results15, go_sem, q0]) rfl ⟨_, rfl, OF, XF⟩
end Go.Proofs.Ytnjjmoefiacbhaa.Trk
namespace Go.Proofs.Ytnjjmoefiacbhaa.Trk
open Go.ChangeShapes Go.WideShapes Go.ChangeAt Go.RowKit
open Go.Proofs.Ytnjjmoefiacbhaa.Num Go.Proofs.Ytnjjmoefiacbhaa.Kit Go.Proofs.Ytnjjmoefiacbhaa.Pts Go.Proofs.Ytnjjmoefiacbhaa.Seg Go.Proofs.Ytnjjmoefiacbhaa.Div
set_option linter.unusedVariables false
def ctF (fs : List F3) (f t : Int) : List F3 := if ckI fs f t = 0 then cutF fs f t else []
theorem ckI_zero {fs : List F3} {f t : Int} (h : ckI fs f t = 0) : trB fs = true ∧ f < t ∧ lastB fs f = true ∧ lastB fs t = true := by
  unfold ckI at h
  split at h
  · rename_i hv
    split at h
    · rename_i hr; exact ⟨hv, hr.1, hr.2.1, hr.2.2⟩
    · exact absurd h (by decide)
  · exact absurd h (by decide)
theorem ctF_len (fs : List F3) (f t : Int) : (ctF fs f t).length ≤ 42 := by
  unfold ctF
  split
  · rename_i h
    obtain ⟨hv, _⟩ := ckI_zero h
    have h40 := (trB_yes hv).1.2
    have hm := midF_len fs f t fs.length
    rw [List.take_length] at hm
    simp [cutF]
    omega
  · simp
theorem cut_impl (a : Option Addr) (cap : Nat) (fs : List F3) (f t : Int) (w : World) (hf : Fxs w a fs) (hcap : fs.length ≤ cap) :
    Calls Try.prog 14 #[Tr (.slice a fs.length cap), .int .i64 f, .int .i64 t] w fun e w' => ∃ v, e = .returned (.tuple #[Tr v, .int .i64 (ckI fs f t)]) ∧ OwnF w' w.heap.size v (ctF fs f t) ∧ Ext w w' := by
  by_cases hk : ckI fs f t = 0
  · obtain ⟨hv, hft, h1, h2⟩ := ckI_zero hk
    rw [show ctF fs f t = cutF fs f t from if_pos hk, hk]
    exact cut_good a cap fs f t w hf hcap hv hft h1 h2
  · rw [show ctF fs f t = [] from if_neg hk]
    exact (cut_bad a cap fs f t w hf hcap hk).mono fun e w' ⟨he, hx⟩ => ⟨_, he, OwnF.nil _ _, hx⟩
theorem cut_spec (a : Option Addr) (cap : Nat) (fs : List F3) (f t : Int) (w : World) (hf : Fxs w a fs) :
    Calls Try.prog 15 #[Tr (.slice a fs.length cap), .int .i64 f, .int .i64 t] w fun e w' => ∃ v, e = .returned (.tuple #[Tr v, .int .i64 (ckI fs f t)]) ∧ OwnF w' w.heap.size v (ctF fs f t) ∧ Ext w w' := by
  by_cases hk : ckI fs f t = 0
  · obtain ⟨hv, hft, h1, h2⟩ := ckI_zero hk
    rw [show ctF fs f t = cutF fs f t from if_pos hk, hk]
    exact cutS_good a cap fs f t w hf hv hft h1 h2
  · rw [show ctF fs f t = [] from if_neg hk]
    exact (cutS_bad a cap fs f t w hf hk).mono fun e w' ⟨he, hx⟩ => ⟨_, he, OwnF.nil _ _, hx⟩
end Go.Proofs.Ytnjjmoefiacbhaa.Trk
