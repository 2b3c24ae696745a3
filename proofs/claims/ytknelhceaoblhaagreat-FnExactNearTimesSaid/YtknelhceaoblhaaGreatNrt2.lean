import Derived.Test.YtknelhceaoblhaaGreatNrt
import Derived.Test.YtknelhceaoblhaaGreatCks3
import Derived.Deep.DeepCutAuto
namespace Go.Proofs.YtknelhceaoblhaaGreat.Nrt
open Go.ChangeShapes Go.WideShapes Go.ChangeAt Go.RowKit Go.PlainAid
open Go.Proofs.YtknelhceaoblhaaGreat.Num Go.Proofs.YtknelhceaoblhaaGreat.Kit Go.Proofs.YtknelhceaoblhaaGreat.Pts Go.Proofs.YtknelhceaoblhaaGreat.Wch Go.Proofs.YtknelhceaoblhaaGreat.Iw Go.Proofs.YtknelhceaoblhaaGreat.Rwz Go.Proofs.YtknelhceaoblhaaGreat.Prs Go.Proofs.YtknelhceaoblhaaGreat.Cks Go.Proofs.YtknelhceaoblhaaGreat.Hul
open Go.Proofs.YtknelhceaoblhaaGreat.Trk (F3 Fx Fxs Tr fx trB)
open Go.Proofs.YtknelhceaoblhaaGreat.Crs (T1 TV)
open Go.Proofs.YtknelhceaoblhaaGreat.Mnv (row_ext row_mono row_grown)
set_option linter.unusedVariables false
set_option linter.unusedSimpArgs false
def pnZ (l d p : Int) (fs gs : List F3) : List Int := (pcZ p fs gs).filter (nhB l d fs gs)
def ntC (l s d p : Int) (fs gs : List F3) : Int := ccC l s d p fs gs
def ntZ (l s d p : Int) (fs gs : List F3) : List Int := if ccB l s d p fs gs = true then pnZ l d p fs gs else []
theorem pn_len (l d p : Int) (fs gs : List F3) : (pnZ l d p fs gs).length ≤ 400 := Nat.le_trans (List.length_filter_le _ _) (sw_len _ _ _)
theorem nt_len (l s d p : Int) (fs gs : List F3) : (ntZ l s d p fs gs).length ≤ 400 := by
  unfold ntZ
  split
  · exact pn_len _ _ _ _ _
  · simp
theorem nt_no {l s d p : Int} {fs gs : List F3} (h : ccB l s d p fs gs = false) : ntC l s d p fs gs = 1 ∧ ntZ l s d p fs gs = [] := by unfold ntC ntZ; rw [h]; exact ⟨(cc_no h).1, rfl⟩
theorem nt_yes {l s d p : Int} {fs gs : List F3} (h : ccB l s d p fs gs = true) : ntC l s d p fs gs = pcC p fs gs ∧ ntZ l s d p fs gs = pnZ l d p fs gs := by unfold ntC ntZ; rw [if_pos h]; exact ⟨(cc_yes h).1, rfl⟩
theorem pc_cases (p : Int) (fs gs : List F3) : pcC p fs gs = 0 ∨ (pcC p fs gs = 3 ∧ pcZ p fs gs = []) := by
  rcases ok_cases (ckA fs gs) (ckE fs gs) p with ⟨_, h⟩ | ⟨_, h, g⟩
  · exact .inl h
  · exact .inr ⟨h, g⟩
theorem pn_none {l d p : Int} {fs gs : List F3} (h : pcZ p fs gs = []) : pnZ l d p fs gs = [] := by unfold pnZ; rw [h]; rfl
theorem fl_take {f : Int → Bool} {zs : List Int} {k : Nat} (h : k < zs.length) : (zs.take (k + 1)).filter f = (zs.take k).filter f ++ (if f (nz zs k) = true then [nz zs k] else []) := by
  rw [List.take_succ_eq_append_getElem h, List.filter_append, ← nz_get h]
  cases hf : f (nz zs k) <;> simp [hf]
theorem fl_len (f : Int → Bool) (zs : List Int) (k : Nat) : ((zs.take k).filter f).length ≤ zs.length := Nat.le_trans (List.length_filter_le _ _) (by simp; omega)
def RelNt (W : World) (base : Nat) (f : Int → Bool) (zs : List Int) (o i : Value) (wr : World) : Prop := ∃ k : Nat, i = .int .i64 k ∧ k ≤ zs.length ∧ OwnZ wr base o ((zs.take k).filter f) ∧ Ext W wr
set_option maxRecDepth 100000 in
set_option maxHeartbeats 8000000 in
theorem pairNear_any (l s d p i k : Int) (t u : T1) (w : World) (hf : Fxs w t.a t.fs) (hg : Fxs w u.a u.fs) (hv : wpB l s d p t u = true) (hc1 : t.fs.length ≤ t.c) (hc2 : u.fs.length ≤ u.c) :
    Calls Tryz.prog 43 #[Pv l s d p i k t u] w fun x w' => ∃ v, x = .returned (.tuple #[v, .int .i64 (pcC p t.fs u.fs)]) ∧ OwnZ w' w.heap.size v (pnZ l d p t.fs u.fs) ∧ Ext w w' := by
  obtain ⟨W0, hW0⟩ : ∃ W0, W0 = w.alloc (.cells #[.int .i64 l, .int .i64 s, .int .i64 d, .int .i64 p, .int .i64 i, .int .i64 k, TV t, TV u] 77) := ⟨_, rfl⟩
  have hX : Ext w W0 := hW0 ▸ ((Ext.refl w).alloc _)
  have hs0 : W0.heap.size = w.heap.size + 1 := by rw [hW0]; simp
  have e00 : ∀ w', (Ext W0) w' → w'.cell? ⟨w.heap.size, 0, none⟩ = some (.int .i64 l) := fun w' h => h.cellOf (by rw [hW0]; exact boxed 0 rfl (by simp))
  have e01 : ∀ w', (Ext W0) w' → w'.cell? ⟨w.heap.size, 1, none⟩ = some (.int .i64 s) := fun w' h => h.cellOf (by rw [hW0]; exact boxed 1 rfl (by simp))
  have e02 : ∀ w', (Ext W0) w' → w'.cell? ⟨w.heap.size, 2, none⟩ = some (.int .i64 d) := fun w' h => h.cellOf (by rw [hW0]; exact boxed 2 rfl (by simp))
  have e03 : ∀ w', (Ext W0) w' → w'.cell? ⟨w.heap.size, 3, none⟩ = some (.int .i64 p) := fun w' h => h.cellOf (by rw [hW0]; exact boxed 3 rfl (by simp))
  have e04 : ∀ w', (Ext W0) w' → w'.cell? ⟨w.heap.size, 4, none⟩ = some (.int .i64 i) := fun w' h => h.cellOf (by rw [hW0]; exact boxed 4 rfl (by simp))
  have e05 : ∀ w', (Ext W0) w' → w'.cell? ⟨w.heap.size, 5, none⟩ = some (.int .i64 k) := fun w' h => h.cellOf (by rw [hW0]; exact boxed 5 rfl (by simp))
  have e06 : ∀ w', (Ext W0) w' → w'.cell? ⟨w.heap.size, 6, none⟩ = some (TV t) := fun w' h => h.cellOf (by rw [hW0]; exact boxed 6 rfl (by simp))
  have e07 : ∀ w', (Ext W0) w' → w'.cell? ⟨w.heap.size, 7, none⟩ = some (TV u) := fun w' h => h.cellOf (by rw [hW0]; exact boxed 7 rfl (by simp))
  have HF := Lib.hid (hf.ext hX)
  have HG := Lib.hid (hg.ext hX)
  have KC := Lib.hid (fun w (h : Fxs w t.a t.fs) (g : Fxs w u.a u.fs) => pairChecks_any l s d p i k t u w h g hv)
  have KN := Lib.hid (fun z w (h : Fxs w t.a t.fs) (g : Fxs w u.a u.fs) => seesNear_any l s d p t u z w h g hc1 hc2)
  have HP := Lib.hid (pc_cases p t.fs u.fs)
  have HZ := Lib.hid (show pnZ l d p t.fs u.fs = (pcZ p t.fs u.fs).filter (nhB l d t.fs u.fs) from rfl)
  have HQ := Lib.hid (fun h => pn_none (l := l) (d := d) (p := p) (fs := t.fs) (gs := u.fs) h)
  have HL := Lib.hid (show (pcZ p t.fs u.fs).length ≤ 400 from sw_len _ _ _)
  obtain ⟨i0, hin, hz0, hz1, hz2⟩ := info_parts Cks.intInfo
  generalize pnZ l d p t.fs u.fs = PN at *
  generalize nhB l d t.fs u.fs = N at *
  generalize pcZ p t.fs u.fs = zs at *
  generalize pcC p t.fs u.fs = C at *
  clear hf hg hv
  go_enter Tryz.func43, Tryz.ntmps43
  go_wp2_with fail
  rw [← hW0]
  clear hW0
  refine (KC.out _ HF.out HG.out).mono ?_
  rintro e w1 ⟨v, rfl, hO, hy⟩
  have X1 := Lib.hid (show Ext W0 w1 from hy)
  clear hy KC
  rcases HP.out with rfl | ⟨rfl, hz⟩
  rotate_left
  · have H := Lib.hid (HQ.out hz)
    clear hO hz
    go_wp2
    go_ret2
    exact ⟨_, rfl, by rw [H.out]; exact OwnZ.nil _ _, hX.trans X1.out⟩
  obtain ⟨a0, cap0, rfl, F0⟩ := hO.zxs (by unfold maxLen; have := HL.out; omega)
  have FZ := Lib.hid F0
  have sW := Lib.hid (Ext.size (hX.trans X1.out))
  clear F0 hO
  go_wp2
  go_loopw [6, 19] (fun o i wr => RelNt w1 w1.heap.size N zs o i wr) (fun _ i _ => zs.length - (intOf i).toNat)
  case atStart => exact ⟨0, rfl, Nat.zero_le _, OwnZ.nil _ _, Ext.refl _⟩
  case round =>
    obtain ⟨j, rfl, hj, hO, hx⟩ := hrel
    have HO := Lib.hid hO
    have HX := Lib.hid hx
    clear hO hx
    have j0 : (0 : Int) ≤ (j : Int) := by omega
    have hl := HL.out
    have T7 : IntKind.i64.wrap ((j : Int) + 1) = (j : Int) + 1 := IntWalk.i64_in _ (by omega)
    by_cases hj1 : j < zs.length
    · obtain ⟨b, off, rfl, hb⟩ := FZ.out.row (by omega)
      have c0 := HX.out.cellOf (hb j hj1)
      have j1 : (j : Int) < (zs.length : Int) := by omega
      have HT := Lib.hid (fl_take (f := N) hj1)
      have HN := Lib.hid (fl_len N zs j)
      have XX := Lib.hid (X1.out.trans HX.out)
      have g0 := e00 wr XX.out
      have g1 := e01 wr XX.out
      have g2 := e02 wr XX.out
      have g3 := e03 wr XX.out
      have g6 := e06 wr XX.out
      have g7 := e07 wr XX.out
      clear hb
      generalize nz zs j = z at *
      generalize (zs.take j).filter N = ys at *
      go_wp2_with fail
      refine (KN.out z _ (HF.out.ext XX.out) (HG.out.ext XX.out)).mono ?_
      rintro e w2 ⟨rfl, hy⟩
      have HX2 := Lib.hid (HX.out.trans hy)
      have O2 := Lib.hid (HO.out.ext hy)
      clear hy g0 g1 g2 g3 g6 g7 c0
      cases hn : N z
      · rw [hn] at HT
        have E := Lib.hid (show _ = ys from HT.out.trans (by simp))
        clear hn
        go_wp2
        go_roundw
        case rel => exact ⟨j + 1, by go_num, by omega, by rw [E.out]; exact O2.out, HX2.out⟩
        case measure => simp [intOf]; omega
      · rw [hn] at HT
        have E := Lib.hid (show _ = ys ++ [z] from HT.out.trans (by simp))
        clear hn
        have OA := row_ext O2.out ((Ext.refl w2).alloc (.cells #[.int .i64 z] 2))
        have XA := Lib.hid (HX2.out.alloc (.cells #[.int .i64 z] 2))
        have CC := Lib.hid (lit1 (w := w2) (n := w2.heap.size) (u := .int .i64 z) (t := 2) rfl)
        have P1 := Lib.hid (oneI z)
        have P3 := Lib.hid (show ys.length + 1 ≤ maxLen by unfold maxLen; have := HN.out; omega)
        have P4 := Lib.hid (show (ys.length + 1) * 8 ≤ 140737488355328 by have := HN.out; omega)
        have zA := Lib.hid (Ext.size XA.out)
        have E5 := Lib.hid (cz_snoc ys z)
        have L5 := Lib.hid (show (ys ++ [z]).length = ys.length + 1 by simp)
        go_wp2_with (at_builtin; refine wpList_append_own _ rfl _ _ 36 rfl w1.heap.size 2 i0 (.int .i64 0) 1 8 Tryz.underlying36 hin hz0 hz1 hz2 rfl (by decide) _ ys.length _ rfl OA ⟨w2.heap.size, 0, none⟩ 1 1 [.int .i64 z] rfl rfl CC.out P1.out P3.out P4.out zA.out ?_; intro v1 w6 hown hgrow hnil; have O5 := Lib.hid (show OwnZ w6 w1.heap.size v1 (ys ++ [z]) by unfold OwnZ; rw [L5.out, E5.out]; exact hown); have X5 := Lib.hid (row_grown (w0 := w1) OA hgrow (Nat.le_refl _) XA.out); clear hown hgrow hnil OA)
        go_roundw
        case rel => exact ⟨j + 1, by go_num, by omega, by rw [E.out]; exact O5.out, X5.out⟩
        case measure => simp [intOf]; omega
    · obtain rfl : j = zs.length := by omega
      have H := Lib.hid (show (zs.take zs.length).filter N = PN by rw [List.take_length]; exact HZ.out.symm)
      go_wp2
      go_ret2
      exact ⟨_, rfl, by have := OwnZ.mono HO.out sW.out; rw [H.out] at this; exact this, hX.trans (X1.out.trans HX.out)⟩
set_option maxHeartbeats 4000000 in
theorem nearTimes_impl (l s d p : Int) (a0 b0 : Option Addr) (ca cb : Nat) (fs gs : List F3) (w : World) (hf : Fxs w a0 fs) (hg : Fxs w b0 gs) (hc1 : fs.length ≤ ca) (hc2 : gs.length ≤ cb) :
    Calls Tryz.prog 12 #[Wt l s d p, Tr (.slice a0 fs.length ca), Tr (.slice b0 gs.length cb)] w fun x w' => ∃ v, x = .returned (.tuple #[v, .int .i64 (ntC l s d p fs gs)]) ∧ OwnZ w' w.heap.size v (ntZ l s d p fs gs) ∧ Ext w w' := by
  obtain ⟨W0, hW0⟩ : ∃ W0, W0 = ((w.alloc (.cells #[.int .i64 l, .int .i64 s, .int .i64 d, .int .i64 p] 27)).alloc (.cells #[.slice a0 fs.length ca] 30)).alloc (.cells #[.slice b0 gs.length cb] 30) := ⟨_, rfl⟩
  have hX : Ext w W0 := hW0 ▸ ((((Ext.refl w).alloc _).alloc _).alloc _)
  have hs0 : W0.heap.size = w.heap.size + 1 + 1 + 1 := by rw [hW0]; simp
  have e00 : ∀ w', (Ext W0) w' → w'.cell? ⟨w.heap.size, 0, none⟩ = some (.int .i64 l) := fun w' h => h.cellOf (by rw [hW0]; exact (((Ext.refl _).alloc _).alloc _).cellOf (boxed 0 rfl (by simp)))
  have e01 : ∀ w', (Ext W0) w' → w'.cell? ⟨w.heap.size, 1, none⟩ = some (.int .i64 s) := fun w' h => h.cellOf (by rw [hW0]; exact (((Ext.refl _).alloc _).alloc _).cellOf (boxed 1 rfl (by simp)))
  have e02 : ∀ w', (Ext W0) w' → w'.cell? ⟨w.heap.size, 2, none⟩ = some (.int .i64 d) := fun w' h => h.cellOf (by rw [hW0]; exact (((Ext.refl _).alloc _).alloc _).cellOf (boxed 2 rfl (by simp)))
  have e03 : ∀ w', (Ext W0) w' → w'.cell? ⟨w.heap.size, 3, none⟩ = some (.int .i64 p) := fun w' h => h.cellOf (by rw [hW0]; exact (((Ext.refl _).alloc _).alloc _).cellOf (boxed 3 rfl (by simp)))
  have e10 : ∀ w', (Ext W0) w' → w'.cell? ⟨w.heap.size + 1, 0, none⟩ = some (.slice a0 fs.length ca) := fun w' h => h.cellOf (by rw [hW0]; exact ((Ext.refl _).alloc _).cellOf (boxed 0 rfl (by simp)))
  have e20 : ∀ w', (Ext W0) w' → w'.cell? ⟨w.heap.size + 1 + 1, 0, none⟩ = some (.slice b0 gs.length cb) := fun w' h => h.cellOf (by rw [hW0]; exact boxed 0 rfl (by simp))
  have sW := Ext.size hX
  have KW := Lib.hid (watchedPair_any l s d p ⟨a0, ca, fs⟩ ⟨b0, cb, gs⟩ W0 (hf.ext hX) (hg.ext hX))
  have HY := Lib.hid (show wpB l s d p ⟨a0, ca, fs⟩ ⟨b0, cb, gs⟩ = ccB l s d p fs gs from rfl)
  have HF := Lib.hid (hf.ext hX)
  have HG := Lib.hid (hg.ext hX)
  clear hf hg
  go_enter Tryz.func12, Tryz.ntmps12
  go_wp2_with fail
  rw [← hW0]
  clear hW0
  refine KW.out.mono ?_
  rintro e w1 ⟨⟨hv, rfl⟩ | ⟨hv, rfl⟩, hy⟩
  · have H := Lib.hid (nt_yes (HY.out.symm.trans hv))
    have X1 := Lib.hid (hX.trans hy)
    obtain ⟨W2, hW2⟩ : ∃ W2, W2 = w1.alloc (.cells (LP l s d p 0 1 ⟨a0, ca, fs⟩ ⟨b0, cb, gs⟩).toArray 77) := ⟨_, rfl⟩
    have x2 : Ext w1 W2 := hW2 ▸ (Ext.refl w1).alloc _
    have HB := Lib.hid (show Box W2 w1.heap.size (LP l s d p 0 1 ⟨a0, ca, fs⟩ ⟨b0, cb, gs⟩) from hW2 ▸ Box.new rfl)
    have KC := Lib.hid (pairNear_any l s d p 0 1 ⟨a0, ca, fs⟩ ⟨b0, cb, gs⟩ W2 (HF.out.ext (hy.trans x2)) (HG.out.ext (hy.trans x2)) hv hc1 hc2)
    replace X1 := Lib.hid (X1.out.trans x2)
    obtain ⟨⟨r0, r1, r2, r3, r4, r5, r6, r7⟩, _⟩ := Box.eightc HB.out
    clear hy x2 KW HF HG
    go_upto_region 2 with fail
    rw [← hW2]
    clear hW2
    go_wp2_with fail
    refine KC.out.mono ?_
    rintro e w3 ⟨v, rfl, hO, hy⟩
    go_wp2
    go_ret2
    exact ⟨_, ret_vc H.out.1, by rw [H.out.2]; exact OwnZ.mono hO (Ext.size X1.out), X1.out.trans hy⟩
  · have H := Lib.hid (nt_no (HY.out.symm.trans hv))
    have X1 := Lib.hid (hX.trans hy)
    clear hy KW HF HG
    go_wp2
    go_ret2
    exact ⟨_, ret_vc H.out.1, by rw [H.out.2]; exact OwnZ.nil _ _, X1.out.alloc _⟩
set_option maxRecDepth 100000 in
set_option maxHeartbeats 8000000 in
theorem nearTimes_spec (l s d p : Int) (a0 b0 : Option Addr) (ca cb : Nat) (fs gs : List F3) (w : World) (hf : Fxs w a0 fs) (hg : Fxs w b0 gs) (hc1 : fs.length ≤ ca) (hc2 : gs.length ≤ cb) :
    Calls Tryz.prog 16 #[Wt l s d p, Tr (.slice a0 fs.length ca), Tr (.slice b0 gs.length cb)] w fun x w' => ∃ v, x = .returned (.tuple #[v, .int .i64 (ntC l s d p fs gs)]) ∧ OwnZ w' w.heap.size v (ntZ l s d p fs gs) ∧ Ext w w' := by
  obtain ⟨W0, hW0⟩ : ∃ W0, W0 = ((w.alloc (.cells #[.int .i64 l, .int .i64 s, .int .i64 d, .int .i64 p] 27)).alloc (.cells #[.slice a0 fs.length ca] 30)).alloc (.cells #[.slice b0 gs.length cb] 30) := ⟨_, rfl⟩
  have hX : Ext w W0 := hW0 ▸ ((((Ext.refl w).alloc _).alloc _).alloc _)
  have hs0 : W0.heap.size = w.heap.size + 1 + 1 + 1 := by rw [hW0]; simp
  have e00 : ∀ w', (Ext W0) w' → w'.cell? ⟨w.heap.size, 0, none⟩ = some (.int .i64 l) := fun w' h => h.cellOf (by rw [hW0]; exact (((Ext.refl _).alloc _).alloc _).cellOf (boxed 0 rfl (by simp)))
  have e01 : ∀ w', (Ext W0) w' → w'.cell? ⟨w.heap.size, 1, none⟩ = some (.int .i64 s) := fun w' h => h.cellOf (by rw [hW0]; exact (((Ext.refl _).alloc _).alloc _).cellOf (boxed 1 rfl (by simp)))
  have e02 : ∀ w', (Ext W0) w' → w'.cell? ⟨w.heap.size, 2, none⟩ = some (.int .i64 d) := fun w' h => h.cellOf (by rw [hW0]; exact (((Ext.refl _).alloc _).alloc _).cellOf (boxed 2 rfl (by simp)))
  have e03 : ∀ w', (Ext W0) w' → w'.cell? ⟨w.heap.size, 3, none⟩ = some (.int .i64 p) := fun w' h => h.cellOf (by rw [hW0]; exact (((Ext.refl _).alloc _).alloc _).cellOf (boxed 3 rfl (by simp)))
  have e10 : ∀ w', (Ext W0) w' → w'.cell? ⟨w.heap.size + 1, 0, none⟩ = some (.slice a0 fs.length ca) := fun w' h => h.cellOf (by rw [hW0]; exact ((Ext.refl _).alloc _).cellOf (boxed 0 rfl (by simp)))
  have e20 : ∀ w', (Ext W0) w' → w'.cell? ⟨w.heap.size + 1 + 1, 0, none⟩ = some (.slice b0 gs.length cb) := fun w' h => h.cellOf (by rw [hW0]; exact boxed 0 rfl (by simp))
  have HF := Lib.hid (hf.ext hX)
  have HG := Lib.hid (hg.ext hX)
  have KC := Lib.hid (fun w (h : Fxs w a0 fs) (g : Fxs w b0 gs) => checkTimes_spec l s d p a0 b0 ca cb fs gs w h g)
  have KN := Lib.hid (fun z w (h : Fxs w a0 fs) (g : Fxs w b0 gs) => near_spec l s d p ⟨a0, ca, fs⟩ ⟨b0, cb, gs⟩ z w h g hc1 hc2)
  have HL := Lib.hid (cc_len l s d p fs gs)
  have HK := Lib.hid (show (ccC l s d p fs gs ≠ 0 ∧ ntZ l s d p fs gs = []) ∨ (ccC l s d p fs gs = 0 ∧ ntZ l s d p fs gs = (ccZ l s d p fs gs).filter (nhB l d fs gs)) by
    cases hb : ccB l s d p fs gs
    · exact .inl ⟨by rw [(cc_no hb).1]; decide, (nt_no hb).2⟩
    · rw [(cc_yes hb).1, (cc_yes hb).2, (nt_yes hb).2]
      rcases pc_cases p fs gs with h | ⟨h, g⟩
      · exact .inr ⟨h, rfl⟩
      · exact .inl ⟨by rw [h]; decide, pn_none g⟩)
  have HC := Lib.hid (show ntC l s d p fs gs = ccC l s d p fs gs from rfl)
  obtain ⟨i0, hin, hz0, hz1, hz2⟩ := info_parts Cks.intInfo
  generalize ntZ l s d p fs gs = PN at *
  generalize ntC l s d p fs gs = NC at *
  generalize nhB l d fs gs = N at *
  generalize ccZ l s d p fs gs = zs at *
  generalize ccC l s d p fs gs = C at *
  clear hf hg
  go_enter Tryz.func16, Tryz.ntmps16
  go_wp2_with fail
  rw [← hW0]
  clear hW0
  refine (KC.out _ HF.out HG.out).mono ?_
  rintro e w1 ⟨v, rfl, hO, hy⟩
  have X1 := Lib.hid (show Ext W0 w1 from hy)
  clear hy KC
  rcases HK.out with ⟨hc, hz⟩ | ⟨rfl, hz⟩
  · have H := Lib.hid hz
    have b1 : (C != 0) = true := by simpa using hc
    clear hO hz hc
    go_wp2
    go_ret2
    exact ⟨_, ret_vc HC.out, by rw [H.out]; exact OwnZ.nil _ _, hX.trans X1.out⟩
  have HZ := Lib.hid hz
  obtain ⟨a1, cap1, rfl, F0⟩ := hO.zxs (by unfold maxLen; have := HL.out; omega)
  have FZ := Lib.hid F0
  have sW := Lib.hid (Ext.size (hX.trans X1.out))
  have LT := Lib.hid (OwnZ.lit w1)
  have XL := Lib.hid ((Ext.refl w1).alloc (.cells #[] 2))
  clear F0 hO hz
  go_wp2
  generalize w1.alloc (.cells #[] 2) = W2 at *
  go_loopw [10, 11] (fun o i wr => RelNt w1 w1.heap.size N zs o i wr) (fun _ i _ => zs.length - (intOf i).toNat)
  case atStart => exact ⟨0, rfl, Nat.zero_le _, LT.out, XL.out⟩
  case round =>
    obtain ⟨j, rfl, hj, hO, hx⟩ := hrel
    have HO := Lib.hid hO
    have HX := Lib.hid hx
    clear hO hx
    have j0 : (0 : Int) ≤ (j : Int) := by omega
    have hl := HL.out
    have T7 : IntKind.i64.wrap ((j : Int) + 1) = (j : Int) + 1 := IntWalk.i64_in _ (by omega)
    by_cases hj1 : j < zs.length
    · obtain ⟨b, off, rfl, hb⟩ := FZ.out.row (by omega)
      have c0 := HX.out.cellOf (hb j hj1)
      have j1 : (j : Int) < (zs.length : Int) := by omega
      have HT := Lib.hid (fl_take (f := N) hj1)
      have HN := Lib.hid (fl_len N zs j)
      have XX := Lib.hid (X1.out.trans HX.out)
      have g00 : ∀ w', Ext wr w' → w'.cell? ⟨w.heap.size, 0, none⟩ = some (.int .i64 l) := fun w' h => e00 w' (XX.out.trans h)
      have g01 : ∀ w', Ext wr w' → w'.cell? ⟨w.heap.size, 1, none⟩ = some (.int .i64 s) := fun w' h => e01 w' (XX.out.trans h)
      have g02 : ∀ w', Ext wr w' → w'.cell? ⟨w.heap.size, 2, none⟩ = some (.int .i64 d) := fun w' h => e02 w' (XX.out.trans h)
      have g03 : ∀ w', Ext wr w' → w'.cell? ⟨w.heap.size, 3, none⟩ = some (.int .i64 p) := fun w' h => e03 w' (XX.out.trans h)
      have g10 : ∀ w', Ext wr w' → w'.cell? ⟨w.heap.size + 1, 0, none⟩ = some (.slice a0 fs.length ca) := fun w' h => e10 w' (XX.out.trans h)
      have g20 : ∀ w', Ext wr w' → w'.cell? ⟨w.heap.size + 1 + 1, 0, none⟩ = some (.slice b0 gs.length cb) := fun w' h => e20 w' (XX.out.trans h)
      clear hb
      generalize nz zs j = z at *
      have c1 : ∀ w', Ext wr w' → w'.cell? ⟨b, off + j, none⟩ = some (.int .i64 z) := fun w' h => h.cellOf (by simpa using c0)
      clear c0
      generalize (zs.take j).filter N = ys at *
      go_wp2_with fail
      refine wp_region_held_drew (S := (fun w' => Ext wr w')) (by kernel_rfl) (by (try dsimp only); first | go_keep | exact (Ext.refl _).drew | exact Res.new2.drew | exact Res.new4.drew | exact ResB.drew (by assumption) | exact ResC.drew (by assumption) | assumption | exact Ext.drew (by assumption) | exact Res.drew (by assumption)) (fun hHeld => ?_)
      refine Ord.K 0 29 ?_
      refine Ord.K 1 30 ?_
      refine Ord.K 2 31 ?_
      refine Ord.K 3 32 ?_
      refine Ord.K 4 33 ?_
      refine Ord.K 5 34 ?_
      refine Ord.K 6 35 ?_
      (refine wpAnyH_ready (rs := [7]) (by kernel_rfl) (by simp) ?_; refine AllReadyH.cons rfl (fun K hK => ?_) AllReadyH.nil; go_simp; (go_at_call 46; refine (KN.out z _ (HF.out.ext (XX.out.trans (by first | assumption | exact (Ext.refl _).drew))) (HG.out.ext (XX.out.trans (by first | assumption | exact (Ext.refl _).drew)))).mono ?_; rintro e w2 ⟨rfl, hy⟩); go_wp2_with fail; (refine hK.out _ _ (by first | assumption | exact Ext.trans (by assumption) hy | exact Res.ext (by assumption) hy | exact ResB.ext (by assumption) hy | exact ResC.ext (by assumption) hy | (go_split_ands; (repeat' apply And.intro) <;> exact Ext.cellOf hy (by assumption))) (fun hHeld => ?_)); clear hK K; (try simp only [Act.put, Ord.a, Ord.b, Ord.c]))
      refine wpAnyH_done (by kernel_rfl) ?_ _
      have hy2 : Ext wr w2 := by assumption
      have HY2 := Lib.hid (HX.out.trans hy2)
      have O2 := Lib.hid (HO.out.ext hy2)
      have c2 := c1 w2 hy2
      clear hy2 hHeld g00 g01 g02 g03 g10 g20 c1
      cases hn : N z
      · rw [hn] at HT
        have E := Lib.hid (show _ = ys from HT.out.trans (by simp))
        clear hn
        go_wp2
        go_roundw
        case rel => exact ⟨j + 1, by go_num, by omega, by rw [E.out]; exact O2.out, HY2.out⟩
        case measure => simp [intOf]; omega
      · rw [hn] at HT
        have E := Lib.hid (show _ = ys ++ [z] from HT.out.trans (by simp))
        clear hn
        have OA := row_ext O2.out ((Ext.refl w2).alloc (.cells #[.int .i64 z] 2))
        have XA := Lib.hid (HY2.out.alloc (.cells #[.int .i64 z] 2))
        have CC := Lib.hid (lit1 (w := w2) (n := w2.heap.size) (u := .int .i64 z) (t := 2) rfl)
        have P1 := Lib.hid (oneI z)
        have P3 := Lib.hid (show ys.length + 1 ≤ maxLen by unfold maxLen; have := HN.out; omega)
        have P4 := Lib.hid (show (ys.length + 1) * 8 ≤ 140737488355328 by have := HN.out; omega)
        have zA := Lib.hid (Ext.size XA.out)
        have E5 := Lib.hid (cz_snoc ys z)
        have L5 := Lib.hid (show (ys ++ [z]).length = ys.length + 1 by simp)
        go_wp2_with (at_builtin; refine wpList_append_own _ rfl _ _ 36 rfl w1.heap.size 2 i0 (.int .i64 0) 1 8 Tryz.underlying36 hin hz0 hz1 hz2 rfl (by decide) _ ys.length _ rfl OA ⟨w2.heap.size, 0, none⟩ 1 1 [.int .i64 z] rfl rfl CC.out P1.out P3.out P4.out zA.out ?_; intro v1 w6 hown hgrow hnil; have O5 := Lib.hid (show OwnZ w6 w1.heap.size v1 (ys ++ [z]) by unfold OwnZ; rw [L5.out, E5.out]; exact hown); have X5 := Lib.hid (row_grown (w0 := w1) OA hgrow (Nat.le_refl _) XA.out); clear hown hgrow hnil OA)
        go_roundw
        case rel => exact ⟨j + 1, by go_num, by omega, by rw [E.out]; exact O5.out, X5.out⟩
        case measure => simp [intOf]; omega
    · obtain rfl : j = zs.length := by omega
      have H := Lib.hid (show (zs.take zs.length).filter N = PN by rw [List.take_length]; exact HZ.out.symm)
      go_wp2
      go_ret2
      exact ⟨_, ret_vc HC.out, by have := OwnZ.mono HO.out sW.out; rw [H.out] at this; exact this, hX.trans (X1.out.trans HX.out)⟩
end Go.Proofs.YtknelhceaoblhaaGreat.Nrt
