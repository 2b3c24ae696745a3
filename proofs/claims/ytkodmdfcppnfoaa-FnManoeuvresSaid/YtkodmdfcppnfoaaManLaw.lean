/- FnManoeuvres: for every code, the manoeuvres of the track that is drawn are those of the reference model, at each of them the tack changes, and between two of them it does not, unless the boat is on no tack. No condition. -/
import Derived.Test.YtkodmdfcppnfoaaDrawWe
import Derived.Test.YtkodmdfcppnfoaaMan4
import Derived.Test.YtkodmdfcppnfoaaBig
import Derived.ChangeOld
import Derived.Below
import Derived.Lib.SmallJoins
import Derived.Deep.DeepCutAuto
namespace Go.Proofs.Ytkodmdfcppnfoaa.fnManoeuvres
open Go.ChangeShapes Go.WideShapes Go.ChangeAt Go.RowKit
open Go.Proofs.Ytkodmdfcppnfoaa.Kit Go.Proofs.Ytkodmdfcppnfoaa.Num Go.Proofs.Ytkodmdfcppnfoaa.Draw Go.Proofs.Ytkodmdfcppnfoaa.Pts Go.Proofs.Ytkodmdfcppnfoaa.Wnd
open Go.Proofs.Ytkodmdfcppnfoaa.Mnv (M2 Mxs OwnM px PAt)
open Go.Proofs.Ytkodmdfcppnfoaa.Trk (F3 Fxs Tr trB fx hdX hdY heX heY heC hzB lastB ctI ctI_in legOf legUp_pred times_le trB_yes okB_lt he_yes he_zero IntRow)
set_option linter.unusedVariables false
set_option linter.unusedSimpArgs false

/-- The tack at the begin of a leg, and just before its end. -/
theorem ta_of {x y : Int} {fs : List F3} {t : Int} {k : Nat} (hv : trB fs = true) (hw : wdB x y = true) (hl : lastB fs t = true) (hk : legOf fs t = k) :
    (taC x y fs t = 0 ∧ taV x y fs t = tkA x y fs k) ∨ (taC x y fs t = 5 ∧ taV x y fs t = 0 ∧ tkA x y fs k = 0) := by
  have hc := ctI_in hv hl
  cases hz : hzB fs t
  · obtain ⟨e0, e1, e2⟩ := he_yes hc hz
    rw [hk] at e1 e2
    have c : taC x y fs t = 0 := by unfold taC; rw [hw, if_pos rfl]; exact e0
    refine .inl ⟨c, ?_⟩
    unfold taV tkA; rw [if_pos c, e1, e2]
  · obtain ⟨e0, _, _⟩ := he_zero hc hz
    have c : taC x y fs t = 5 := by unfold taC; rw [hw, if_pos rfl]; exact e0
    refine .inr ⟨c, by unfold taV; rw [if_neg (by rw [c]; decide)], ?_⟩
    unfold hzB at hz
    rw [hk, Bool.and_eq_true, beq_iff_eq, beq_iff_eq] at hz
    unfold tkA; rw [hz.1, hz.2]; simp [tkN]
theorem lt_at {fs : List F3} (hv : trB fs = true) {j : Nat} (hj : j + 1 < fs.length) : (fx fs j).t < (fx fs (j + 1)).t := by
  have := okB_lt ((trB_yes hv).2 (j + 1) hj)
  simpa using this
theorem before_at {fs : List F3} (hv : trB fs = true) {j : Nat} (hj : j + 2 < fs.length) : lastB fs ((fx fs (j + 1)).t - 1) = true ∧ legOf fs ((fx fs (j + 1)).t - 1) = j := by
  have h1 := lt_at hv (show j + 1 < fs.length by omega)
  refine ⟨inB_yes ?_ ?_, ?_⟩
  · have := times_le hv 0 j (by omega) (by omega); omega
  · have := times_le hv (j + 1) (fs.length - 1) (by omega) (by omega); omega
  · have := legUp_pred fs ((fx fs (j + 1)).t - 1) (j + 1) (by omega) (fs.length - 1) (by omega)
      (fun i hi => by have := times_le hv i j (by omega) (by omega); omega)
      (fun i hi hn => by have := times_le hv (j + 1) i hi (by omega); omega)
    exact this
theorem begin_at {fs : List F3} (hv : trB fs = true) {j : Nat} (hj : j + 2 < fs.length) : lastB fs (fx fs (j + 1)).t = true ∧ legOf fs (fx fs (j + 1)).t = j + 1 := by
  refine ⟨inB_yes (times_le hv 0 (j + 1) (by omega) (by omega)) (times_le hv (j + 1) (fs.length - 1) (by omega) (by omega)), ?_⟩
  have h1 := lt_at hv (show (j + 1) + 1 < fs.length by omega)
  have := legUp_pred fs (fx fs (j + 1)).t (j + 2) (by omega) (fs.length - 1) (by omega)
    (fun i hi => times_le hv i (j + 1) (by omega) (by omega))
    (fun i hi hn => by have := times_le hv (j + 1 + 1) i (by omega) (by omega); omega)
  exact this
theorem mn_pre (x y : Int) (fs : List F3) (j : Nat) : ∀ d, ∃ L, mnL x y fs (j + d) = mnL x y fs j ++ L ∧ ∀ m ∈ L, (j : Int) + 1 ≤ m.x
  | 0 => ⟨[], by simp, by simp⟩
  | d + 1 => by
    obtain ⟨L, h, hL⟩ := mn_pre x y fs j d
    cases hop : opB (tkA x y fs (j + d)) (tkA x y fs (j + d + 1))
    · exact ⟨L, by rw [show j + (d + 1) = j + d + 1 by omega, mnL_no hop, h], hL⟩
    · refine ⟨L ++ [⟨((j + d : Nat) : Int) + 1, knA x y fs (j + d)⟩], by rw [show j + (d + 1) = j + d + 1 by omega, mnL_yes hop, h]; simp, fun m hm => ?_⟩
      rcases List.mem_append.1 hm with hm | hm
      · exact hL m hm
      · simp at hm; subst hm; simp; omega
theorem px_app {A L : List M2} {m : M2} (h : A ++ m :: L = A ++ m :: L) : px (A ++ m :: L) A.length = m := by
  unfold px; simp [List.getD_eq_getElem?_getD]
/-- What stands in the list behind the first j. -/
theorem mn_at {x y : Int} {fs : List F3} {j n : Nat} (hj : j < n) :
    (opB (tkA x y fs j) (tkA x y fs (j + 1)) = true ∧ (mnL x y fs j).length < (mnL x y fs n).length ∧ (px (mnL x y fs n) (mnL x y fs j).length).x = (j : Int) + 1 ∧ (mnL x y fs (j + 1)).length = (mnL x y fs j).length + 1) ∨
    (opB (tkA x y fs j) (tkA x y fs (j + 1)) = false ∧ (mnL x y fs (j + 1)).length = (mnL x y fs j).length ∧ ((mnL x y fs j).length = (mnL x y fs n).length ∨ (mnL x y fs j).length < (mnL x y fs n).length ∧ (j : Int) + 2 ≤ (px (mnL x y fs n) (mnL x y fs j).length).x)) := by
  obtain ⟨L, hL, hm⟩ := mn_pre x y fs (j + 1) (n - (j + 1))
  rw [show j + 1 + (n - (j + 1)) = n by omega] at hL
  cases hop : opB (tkA x y fs j) (tkA x y fs (j + 1))
  · have e := mnL_no hop
    refine .inr ⟨rfl, by rw [e], ?_⟩
    rw [hL, e]
    match L, hm with
    | [], _ => exact .inl (by simp)
    | m :: L, hm =>
      refine .inr ⟨by simp, ?_⟩
      rw [px_app rfl]
      have := hm m (by simp)
      omega
  · have e := mnL_yes hop
    refine .inl ⟨rfl, by rw [hL, e]; simp, ?_, by rw [e]; simp⟩
    rw [hL, e, List.append_assoc]
    show (px (mnL x y fs j ++ ⟨(j : Int) + 1, knA x y fs j⟩ :: L) _).x = _
    rw [px_app rfl]

/-- What the loop keeps. -/
def RelMl (W : World) (x y : Int) (fs : List F3) (a i : Value) (wr : World) : Prop :=
  ∃ j : Nat, i = .int .i64 ((j : Int) + 1) ∧ j ≤ fs.length - 2 ∧ a = .int .i64 ((mnL x y fs j).length : Int) ∧ Ext W wr

set_option maxRecDepth 100000 in
set_option maxHeartbeats 8000000 in
theorem walk (c : Option Addr) (len cap : Nat) (zs : List Int) (w : World) (hr : IsRow .u8 w c len cap zs) :
    Calls Try.prog 4 #[.slice c len cap] w fun e w' => e = .returned (.bool true) ∧ Ext w w' := by
  have HB := Lib.hid hr.bytes
  clear hr
  by_cases hl : 4096 < len
  · have g := show bigB len = true from decide_eq_true hl
    go_enter Try.func4, Try.ntmps4
    go_wp2_with (go_at_call 13; refine (big_any _ _ _ _).mono ?_; rintro e w' ⟨rfl, rfl⟩)
    go_ret
    exact ⟨rfl, Ext.refl _⟩
  have g := show bigB len = false from decide_eq_false hl
  go_enter Try.func4, Try.ntmps4
  go_wp2_with fail
  refine (big_any _ _ _ _).mono ?_
  rintro e w' ⟨rfl, rfl⟩
  go_wp2_with fail
  refine (drawManoeuvresOf_any c len cap _ HB.out (by omega)).mono ?_
  rintro e w1 ⟨x, y, gg, tc, n, rfl, h1, h41, htc, hI, hx⟩
  obtain ⟨fs, rfl, hOwn⟩ := IntRow.own n hI
  obtain ⟨W2, hW2⟩ : ∃ W2, W2 = (w1.alloc (.cells #[.int .i64 x, .int .i64 y] 25)).alloc (.cells #[.slice (some ⟨gg, 0, none⟩) fs.length tc] 33) := ⟨_, rfl⟩
  have X2 : Ext w1 W2 := hW2 ▸ ((Ext.refl w1).alloc _).alloc _
  have F2 := Lib.hid ((hOwn.fxs (by unfold maxLen; omega)).ext X2)
  have X := Lib.hid (hx.trans X2)
  have p0 : W2.cell? ⟨w1.heap.size, 0, none⟩ = some (.int .i64 x) := hW2 ▸ ((Ext.refl _).alloc _).cellOf (boxed 0 rfl rfl)
  have p1 : W2.cell? ⟨w1.heap.size, 1, none⟩ = some (.int .i64 y) := hW2 ▸ ((Ext.refl _).alloc _).cellOf (boxed 1 rfl rfl)
  have q0 : W2.cell? ⟨w1.heap.size + 1, 0, none⟩ = some (.slice (some ⟨gg, 0, none⟩) fs.length tc) := hW2 ▸ boxed 0 rfl (by simp)
  clear hx HB g hl X2 hI hOwn
  go_upto_region 4 with fail
  rw [← hW2]
  clear hW2
  go_wp2_with fail
  refine (manoeuvresOf_impl _ _ _ _ _ _ F2.out).mono ?_
  rintro e w3 ⟨v1, rfl, O1, hy⟩
  replace p0 := hy.cellOf p0
  replace p1 := hy.cellOf p1
  replace q0 := hy.cellOf q0
  replace X := Lib.hid (X.out.trans hy)
  replace F2 := Lib.hid (F2.out.ext hy)
  have HM := Lib.hid (moL_len x y fs (by omega))
  obtain ⟨a1, c1, rfl, M1⟩ := O1.mxs (by unfold maxLen; have := HM.out; omega)
  clear hy O1
  go_wp2_with fail
  refine (manoeuvresOf_spec _ _ _ _ _ _ F2.out).mono ?_
  rintro e w4 ⟨v2, rfl, O2, hy⟩
  replace p0 := hy.cellOf p0
  replace p1 := hy.cellOf p1
  replace q0 := hy.cellOf q0
  replace X := Lib.hid (X.out.trans hy)
  replace F2 := Lib.hid (F2.out.ext hy)
  obtain ⟨a2, c2, rfl, M2'⟩ := O2.mxs (by unfold maxLen; have := HM.out; omega)
  have HM1 := Lib.hid (M1.ext hy)
  have HM2 := Lib.hid M2'
  clear hy O2 M1 M2'
  by_cases hg : wdB x y = true ∧ trB fs = true
  rotate_left
  · have hc : moC x y fs = 1 := if_neg hg
    rw [hc]
    go_wp2
    go_ret
    exact ⟨rfl, X.out⟩
  obtain ⟨hw, hv⟩ := hg
  obtain ⟨e1, e2⟩ := mo_yes hw hv
  rw [e1]
  rw [e2] at HM HM1 HM2 ⊢
  have HL := Lib.hid (trB_yes hv).1
  have HC := Lib.hid htc
  have KT := Lib.hid (fun (t : Int) (w' : World) (h : Ext w4 w') => tackAt_impl x y (some ⟨gg, 0, none⟩) tc fs t w' (F2.out.ext h) HC.out)
  have HA := Lib.hid (fun (j : Nat) (hj : j < fs.length - 2) => mn_at (x := x) (y := y) (fs := fs) hj)
  have H1 := Lib.hid (fun (j : Nat) (hj : j + 2 < fs.length) => ta_of hv hw (before_at hv hj).1 (before_at hv hj).2)
  have H2 := Lib.hid (fun (j : Nat) (hj : j + 2 < fs.length) => ta_of hv hw (begin_at hv hj).1 (begin_at hv hj).2)
  have HT := Lib.hid (fun (j : Nat) (hj : j < fs.length) => (Trk.fxB_yes (Trk.okB_fx ((trB_yes hv).2 j hj))).1)
  obtain ⟨bb, off, hab, hcell⟩ : ∃ b off, (some (⟨gg, 0, none⟩ : Addr)) = some ⟨b, off, none⟩ ∧ ∀ i, i < fs.length → Trk.At w4 b (off + i * 3) (fx fs i) := by
    rcases F2.out.2 with h | h
    · exfalso; have := HL.out.1; rw [h] at this; simp at this
    · exact h
  have HCe := Lib.hid (fun w' (h : Ext w4 w') (j : Nat) (hj : j < fs.length) => h.cellOf (hcell j hj).1)
  have HD := Lib.hid (fun w' (h : Ext w4 w') => (show w'.cell? ⟨w1.heap.size, 0, none⟩ = some (.int .i64 x) ∧ w'.cell? ⟨w1.heap.size, 1, none⟩ = some (.int .i64 y) ∧ w'.cell? ⟨w1.heap.size + 1, 0, none⟩ = some (.slice (some ⟨bb, off, none⟩) fs.length tc) from ⟨h.cellOf p0, h.cellOf p1, hab ▸ h.cellOf q0⟩))
  rw [hab] at KT
  clear hcell p0 p1 q0 hab hw hv e1 e2 h1 h41 htc F2
  generalize hML : mnL x y fs (fs.length - 2) = ML at *
  go_wp2
  go_loopw [9, 10] (fun a i wr => RelMl w4 x y fs a i wr) (fun a i _ => fs.length - (intOf i).toNat)
  case atStart => exact ⟨0, rfl, Nat.zero_le _, rfl, Ext.refl _⟩
  case round =>
    obtain ⟨j, rfl, hj, rfl, hx⟩ := hrel
    have HX := Lib.hid hx
    clear hx
    have hl2 := HL.out.1
    have hl40 := HL.out.2
    have T7 : IntKind.i64.wrap ((j : Int) + 1 + 1) = (j : Int) + 1 + 1 := IntWalk.i64_in _ (by omega)
    have ct := (HD.out wr HX.out).2.2
    by_cases hlt : j < fs.length - 2
    · have i1 : (j : Int) + 1 + 1 < (fs.length : Int) := by omega
      have i2 : (j : Int) + 1 < (fs.length : Int) := by omega
      have i3 : (0 : Int) ≤ (j : Int) + 1 := by omega
      have N1 : ((j : Int) + 1).toNat = j + 1 := by omega
      have tb := HT.out (j + 1) (by omega)
      have h1 := H1.out j (by omega)
      have h2 := H2.out j (by omega)
      have hA := HA.out j hlt
      have KA := Lib.hid (fun w' (h : Ext wr w') => KT.out ((fx fs (j + 1)).t - 1) w' (HX.out.trans h))
      have KB := Lib.hid (fun w' (h : Ext wr w') => KT.out (fx fs (j + 1)).t w' (HX.out.trans h))
      generalize taC x y fs ((fx fs (j + 1)).t - 1) = C1 at *
      generalize taV x y fs ((fx fs (j + 1)).t - 1) = V1 at *
      generalize taC x y fs (fx fs (j + 1)).t = C2 at *
      generalize taV x y fs (fx fs (j + 1)).t = V2 at *
      have r0 : ∀ w', Ext wr w' → w'.cell? ⟨bb, off + (j + 1) * 3, none⟩ = some (.int .i64 (fx fs (j + 1)).t) := fun w' h => HCe.out w' (HX.out.trans h) (j + 1) (by omega)
      have g0 : ∀ w', Ext wr w' → w'.cell? ⟨w1.heap.size, 0, none⟩ = some (.int .i64 x) := fun w' h => (HD.out w' (HX.out.trans h)).1
      have g1 : ∀ w', Ext wr w' → w'.cell? ⟨w1.heap.size, 1, none⟩ = some (.int .i64 y) := fun w' h => (HD.out w' (HX.out.trans h)).2.1
      have g2 : ∀ w', Ext wr w' → w'.cell? ⟨w1.heap.size + 1, 0, none⟩ = some (.slice (some ⟨bb, off, none⟩) fs.length tc) := fun w' h => (HD.out w' (HX.out.trans h)).2.2
      generalize (fx fs (j + 1)).t = T at *
      have TM : IntKind.i64.wrap (T - 1) = T - 1 := IntWalk.i64_in _ (by omega)
      have hr := Ext.refl wr
      go_upto_region 14 with fail
      refine wp_region_held_drew (S := (fun w' => Ext wr w')) (by kernel_rfl) (by (try dsimp only); first | go_keep | exact (Ext.refl _).drew | exact Res.new2.drew | exact Res.new4.drew | exact ResB.drew (by assumption) | exact ResC.drew (by assumption) | assumption | exact Ext.drew (by assumption) | exact Res.drew (by assumption)) (fun hHeld => ?_)
      (refine Ord.k 0 57 (v := ?_) ?_ ?_; rotate_left; (intro w h; (try dsimp only at h); go_simp; (try with_reducible rfl)); (try simp only [Act.put, Ord.a, Ord.b, Ord.c]))
      (refine Ord.k 1 58 (v := ?_) ?_ ?_; rotate_left; (intro w h; (try dsimp only at h); go_simp; (try with_reducible rfl)); (try simp only [Act.put, Ord.a, Ord.b, Ord.c]))
      (refine Ord.k 2 59 (v := ?_) ?_ ?_; rotate_left; (intro w h; (try dsimp only at h); go_simp; (try with_reducible rfl)); (try simp only [Act.put, Ord.a, Ord.b, Ord.c]))
      (refine Ord.k 3 60 (v := ?_) ?_ ?_; rotate_left; (intro w h; (try dsimp only at h); go_simp; (try with_reducible rfl)); (try simp only [Act.put, Ord.a, Ord.b, Ord.c]))
      (refine Ord.k 4 61 (v := ?_) ?_ ?_; rotate_left; (intro w h; (try dsimp only at h); go_simp; (try with_reducible rfl)); (try simp only [Act.put, Ord.a, Ord.b, Ord.c]))
      (refine Ord.k 5 62 (v := ?_) ?_ ?_; rotate_left; (intro w h; (try dsimp only at h); go_simp; (try with_reducible rfl)); (try simp only [Act.put, Ord.a, Ord.b, Ord.c]))
      (refine Ord.k 6 63 (v := ?_) ?_ ?_; rotate_left; (intro w h; (try dsimp only at h); go_simp; (try with_reducible rfl)); (try simp only [Act.put, Ord.a, Ord.b, Ord.c]))
      (refine Ord.k 7 64 (v := ?_) ?_ ?_; rotate_left; (intro w h; (try dsimp only at h); go_simp; (try with_reducible rfl)); (try simp only [Act.put, Ord.a, Ord.b, Ord.c]))
      (refine Ord.k 8 65 (v := ?_) ?_ ?_; rotate_left; (intro w h; (try dsimp only at h); go_simp; (try with_reducible rfl)); (try simp only [Act.put, Ord.a, Ord.b, Ord.c]))
      (refine wpAnyH_ready (rs := [9]) (by kernel_rfl) (by simp) ?_; refine AllReadyH.cons rfl (fun K hK => ?_) AllReadyH.nil; go_simp; (go_at_call 21; refine (KA.out _ (by assumption)).mono ?_; rintro e w5 ⟨rfl, hy⟩); go_wp2_with fail; (refine hK.out _ _ (by first | assumption | exact Ext.trans (by assumption) hy | exact Res.ext (by assumption) hy | exact ResB.ext (by assumption) hy | exact ResC.ext (by assumption) hy | (go_split_ands; (repeat' apply And.intro) <;> exact Ext.cellOf hy (by assumption))) (fun hHeld => ?_)); clear hK K; (try simp only [Act.put, Ord.a, Ord.b, Ord.c]))
      (refine Ord.k 10 56 (v := ?_) ?_ ?_; rotate_left; (intro w h; (try dsimp only at h); go_simp; (try with_reducible rfl)); (try simp only [Act.put, Ord.a, Ord.b, Ord.c]))
      (refine Ord.k 11 67 (v := ?_) ?_ ?_; rotate_left; (intro w h; (try dsimp only at h); go_simp; (try with_reducible rfl)); (try simp only [Act.put, Ord.a, Ord.b, Ord.c]))
      (refine Ord.k 12 68 (v := ?_) ?_ ?_; rotate_left; (intro w h; (try dsimp only at h); go_simp; (try with_reducible rfl)); (try simp only [Act.put, Ord.a, Ord.b, Ord.c]))
      (refine Ord.k 13 11 (v := ?_) ?_ ?_; rotate_left; (intro w h; (try dsimp only at h); go_simp; (try with_reducible rfl)); (try simp only [Act.put, Ord.a, Ord.b, Ord.c]))
      (refine Ord.k 14 12 (v := ?_) ?_ ?_; rotate_left; (intro w h; (try dsimp only at h); go_simp; (try with_reducible rfl)); (try simp only [Act.put, Ord.a, Ord.b, Ord.c]))
      refine wpAnyH_done (by kernel_rfl) ?_ _
      have h5 : Ext wr w5 := hHeld
      clear hHeld hy hr
      replace r0 : ∀ w', Ext w5 w' → w'.cell? ⟨bb, off + (j + 1) * 3, none⟩ = some (.int .i64 T) := fun w' h => r0 w' (h5.trans h)
      replace g0 : ∀ w', Ext w5 w' → w'.cell? ⟨w1.heap.size, 0, none⟩ = some (.int .i64 x) := fun w' h => g0 w' (h5.trans h)
      replace g1 : ∀ w', Ext w5 w' → w'.cell? ⟨w1.heap.size, 1, none⟩ = some (.int .i64 y) := fun w' h => g1 w' (h5.trans h)
      replace g2 : ∀ w', Ext w5 w' → w'.cell? ⟨w1.heap.size + 1, 0, none⟩ = some (.slice (some ⟨bb, off, none⟩) fs.length tc) := fun w' h => g2 w' (h5.trans h)
      have H5 := Lib.hid h5
      have hr := Ext.refl w5
      clear ct h5
      go_upto_region 15 with fail
      refine wp_region_held_drew (S := (fun w' => Ext w5 w')) (by kernel_rfl) (by (try dsimp only); first | go_keep | exact (Ext.refl _).drew | exact Res.new2.drew | exact Res.new4.drew | exact ResB.drew (by assumption) | exact ResC.drew (by assumption) | assumption | exact Ext.drew (by assumption) | exact Res.drew (by assumption)) (fun hHeld => ?_)
      (refine Ord.k 0 70 (v := ?_) ?_ ?_; rotate_left; (intro w h; (try dsimp only at h); go_simp; (try with_reducible rfl)); (try simp only [Act.put, Ord.a, Ord.b, Ord.c]))
      (refine Ord.k 1 71 (v := ?_) ?_ ?_; rotate_left; (intro w h; (try dsimp only at h); go_simp; (try with_reducible rfl)); (try simp only [Act.put, Ord.a, Ord.b, Ord.c]))
      (refine Ord.k 2 72 (v := ?_) ?_ ?_; rotate_left; (intro w h; (try dsimp only at h); go_simp; (try with_reducible rfl)); (try simp only [Act.put, Ord.a, Ord.b, Ord.c]))
      (refine Ord.k 3 73 (v := ?_) ?_ ?_; rotate_left; (intro w h; (try dsimp only at h); go_simp; (try with_reducible rfl)); (try simp only [Act.put, Ord.a, Ord.b, Ord.c]))
      (refine Ord.k 4 74 (v := ?_) ?_ ?_; rotate_left; (intro w h; (try dsimp only at h); go_simp; (try with_reducible rfl)); (try simp only [Act.put, Ord.a, Ord.b, Ord.c]))
      (refine Ord.k 5 75 (v := ?_) ?_ ?_; rotate_left; (intro w h; (try dsimp only at h); go_simp; (try with_reducible rfl)); (try simp only [Act.put, Ord.a, Ord.b, Ord.c]))
      (refine Ord.k 6 76 (v := ?_) ?_ ?_; rotate_left; (intro w h; (try dsimp only at h); go_simp; (try with_reducible rfl)); (try simp only [Act.put, Ord.a, Ord.b, Ord.c]))
      (refine Ord.k 7 77 (v := ?_) ?_ ?_; rotate_left; (intro w h; (try dsimp only at h); go_simp; (try with_reducible rfl)); (try simp only [Act.put, Ord.a, Ord.b, Ord.c]))
      (refine wpAnyH_ready (rs := [8]) (by kernel_rfl) (by simp) ?_; refine AllReadyH.cons rfl (fun K hK => ?_) AllReadyH.nil; go_simp; (go_at_call 21; refine (KB.out _ (H5.out.trans (by assumption))).mono ?_; rintro e w6 ⟨rfl, hy⟩); go_wp2_with fail; (refine hK.out _ _ (by first | assumption | exact Ext.trans (by assumption) hy | exact Res.ext (by assumption) hy | exact ResB.ext (by assumption) hy | exact ResC.ext (by assumption) hy | (go_split_ands; (repeat' apply And.intro) <;> exact Ext.cellOf hy (by assumption))) (fun hHeld => ?_)); clear hK K; (try simp only [Act.put, Ord.a, Ord.b, Ord.c]))
      (refine Ord.k 9 69 (v := ?_) ?_ ?_; rotate_left; (intro w h; (try dsimp only at h); go_simp; (try with_reducible rfl)); (try simp only [Act.put, Ord.a, Ord.b, Ord.c]))
      (refine Ord.k 10 79 (v := ?_) ?_ ?_; rotate_left; (intro w h; (try dsimp only at h); go_simp; (try with_reducible rfl)); (try simp only [Act.put, Ord.a, Ord.b, Ord.c]))
      (refine Ord.k 11 80 (v := ?_) ?_ ?_; rotate_left; (intro w h; (try dsimp only at h); go_simp; (try with_reducible rfl)); (try simp only [Act.put, Ord.a, Ord.b, Ord.c]))
      (refine Ord.k 12 13 (v := ?_) ?_ ?_; rotate_left; (intro w h; (try dsimp only at h); go_simp; (try with_reducible rfl)); (try simp only [Act.put, Ord.a, Ord.b, Ord.c]))
      (refine Ord.k 13 14 (v := ?_) ?_ ?_; rotate_left; (intro w h; (try dsimp only at h); go_simp; (try with_reducible rfl)); (try simp only [Act.put, Ord.a, Ord.b, Ord.c]))
      refine wpAnyH_done (by kernel_rfl) ?_ _
      have HH := Lib.hid (HX.out.trans (H5.out.trans (show Ext w5 w6 from hHeld)))
      clear hHeld hy hr r0 g0 g1 g2 KA KB
      have hKle : (mnL x y fs j).length ≤ 40 := by have := mnL_len x y fs j; omega
      have HLN := Lib.hid (show (mnL x y fs (j + 1)).length = (mnL x y fs j).length + 1 ∨ (mnL x y fs (j + 1)).length = (mnL x y fs j).length from by rcases hA with h | h; exact .inl h.2.2.2; exact .inr h.2.1)
      clear HLN
      generalize hK1 : (mnL x y fs (j + 1)).length = K1 at *
      generalize hK : (mnL x y fs j).length = K at *
      have HK1 := Lib.hid hK1
      clear hK hK1
      have TK : IntKind.i64.wrap ((K : Int) + 1) = (K : Int) + 1 := IntWalk.i64_in _ (by omega)
      have k0 : (0 : Int) ≤ (K : Int) := by omega
      rcases hA with ⟨hop, hlt2, hfx, rfl⟩ | ⟨hop, hEq, hnm⟩
      · have k1 : (K : Int) < (ML.length : Int) := by omega
        obtain ⟨bA, oA, rfl, hbA⟩ := HM1.out.row (by omega)
        obtain ⟨bB, oB, rfl, hbB⟩ := HM2.out.row (by omega)
        obtain ⟨c0, c1⟩ := (hbA K hlt2).ext HH.out
        obtain ⟨d0, d1⟩ := (hbB K hlt2).ext HH.out
        rw [hfx] at c0 d0
        clear hbA hbB
        rcases h1 with ⟨rfl, rfl⟩ | ⟨_, _, h⟩
        rotate_left
        · rw [h] at hop; cases hop
        rcases h2 with ⟨rfl, rfl⟩ | ⟨_, _, h⟩
        rotate_left
        · rw [h] at hop; simp [opB] at hop
        generalize tkA x y fs j = tA at *
        generalize tkA x y fs (j + 1) = tB at *
        unfold opB at hop
        rw [Bool.and_eq_true, Bool.and_eq_true] at hop
        obtain ⟨m1, m2, m3⟩ := hop
        generalize (px ML K).y = z at *
        have e0 : ∀ w', Ext w6 w' → w'.cell? ⟨bA, oA + K * 2, none⟩ = some (.int .i64 ((j : Int) + 1)) := fun w' h => h.cellOf c0
        have e1 : ∀ w', Ext w6 w' → w'.cell? ⟨bA, oA + K * 2 + 1, none⟩ = some (.int .i64 z) := fun w' h => h.cellOf c1
        have e2 : ∀ w', Ext w6 w' → w'.cell? ⟨bB, oB + K * 2, none⟩ = some (.int .i64 ((j : Int) + 1)) := fun w' h => h.cellOf d0
        have e3 : ∀ w', Ext w6 w' → w'.cell? ⟨bB, oB + K * 2 + 1, none⟩ = some (.int .i64 z) := fun w' h => h.cellOf d1
        have hr := Ext.refl w6
        clear c1 d1 c0
        go_upto_region 21 with fail
        clear d0
        refine wp_region_held_drew (S := (fun w' => Ext w6 w')) (by kernel_rfl) (by (try dsimp only); first | go_keep | exact (Ext.refl _).drew | exact Res.new2.drew | exact Res.new4.drew | exact ResB.drew (by assumption) | exact ResC.drew (by assumption) | assumption | exact Ext.drew (by assumption) | exact Res.drew (by assumption)) (fun hHeld => ?_)
        (refine Ord.k 0 117 (v := ?_) ?_ ?_; rotate_left; (intro w h; (try dsimp only at h); go_simp; (try with_reducible rfl)); (try simp only [Act.put, Ord.a, Ord.b, Ord.c]))
        (refine Ord.k 1 118 (v := ?_) ?_ ?_; rotate_left; (intro w h; (try dsimp only at h); go_simp; (try with_reducible rfl)); (try simp only [Act.put, Ord.a, Ord.b, Ord.c]))
        (refine Ord.k 2 119 (v := ?_) ?_ ?_; rotate_left; (intro w h; (try dsimp only at h); go_simp; (try with_reducible rfl)); (try simp only [Act.put, Ord.a, Ord.b, Ord.c]))
        (refine Ord.k 3 120 (v := ?_) ?_ ?_; rotate_left; (intro w h; (try dsimp only at h); go_simp; (try with_reducible rfl)); (try simp only [Act.put, Ord.a, Ord.b, Ord.c]))
        (refine Ord.k 4 121 (v := ?_) ?_ ?_; rotate_left; (intro w h; (try dsimp only at h); go_simp; (try with_reducible rfl)); (try simp only [Act.put, Ord.a, Ord.b, Ord.c]))
        (refine Ord.k 5 122 (v := ?_) ?_ ?_; rotate_left; (intro w h; (try dsimp only at h); go_simp; (try with_reducible rfl)); (try simp only [Act.put, Ord.a, Ord.b, Ord.c]))
        (refine Ord.k 6 123 (v := ?_) ?_ ?_; rotate_left; (intro w h; (try dsimp only at h); go_simp; (try with_reducible rfl)); (try simp only [Act.put, Ord.a, Ord.b, Ord.c]))
        (refine Ord.k 7 124 (v := ?_) ?_ ?_; rotate_left; (intro w h; (try dsimp only at h); go_simp; (try with_reducible rfl)); (try simp only [Act.put, Ord.a, Ord.b, Ord.c]))
        (refine Ord.k 8 125 (v := ?_) ?_ ?_; rotate_left; (intro w h; (try dsimp only at h); go_simp; (try with_reducible rfl)); (try simp only [Act.put, Ord.a, Ord.b, Ord.c]))
        refine wpAnyH_done (by kernel_rfl) ?_ _
        have H7 := Lib.hid (HH.out.trans hHeld)
        clear hHeld hr e0 e1 e2 e3
        go_wp2
        go_roundw
        case rel => exact ⟨j + 1, by go_num, by omega, by rw [HK1.out]; go_num, H7.out⟩
        case measure => simp [intOf]; omega
      · have hEq2 : K = K1 := hEq.symm
        clear hEq
        subst hEq2
        have key : (C1 = 5) ∨ (C1 = 0 ∧ C2 = 5) ∨ (C1 = 0 ∧ C2 = 0 ∧ (V1 != V2) = false) ∨ (C1 = 0 ∧ C2 = 0 ∧ (V1 != V2) = true ∧ (V1 != 0) = false) ∨ (C1 = 0 ∧ C2 = 0 ∧ (V1 != V2) = true ∧ (V1 != 0) = true ∧ (V2 != 0) = false) := by
          rcases h1 with ⟨a1, a2⟩ | ⟨a1, _, _⟩
          · rcases h2 with ⟨b1, b2⟩ | ⟨b1, _, _⟩
            · rw [← a2, ← b2] at hop
              unfold opB at hop
              cases z1 : (V1 != V2)
              · exact .inr (.inr (.inl ⟨a1, b1, rfl⟩))
              · cases z2 : (V1 != 0)
                · exact .inr (.inr (.inr (.inl ⟨a1, b1, rfl, rfl⟩)))
                · cases z3 : (V2 != 0)
                  · exact .inr (.inr (.inr (.inr ⟨a1, b1, rfl, rfl, rfl⟩)))
                  · rw [z1, z2, z3] at hop; cases hop
            · exact .inr (.inl ⟨a1, b1⟩)
          · exact .inl a1
        clear h1 h2 hop
        rcases hnm with hnm | ⟨hlt2, hfx⟩
        · have k1 : ¬ (K : Int) < (ML.length : Int) := by omega
          have k2 : decide ((K : Int) < (ML.length : Int)) = false := decide_eq_false k1
          rcases key with rfl | ⟨rfl, rfl⟩ | ⟨rfl, rfl, z1⟩ | ⟨rfl, rfl, z1, z2⟩ | ⟨rfl, rfl, z1, z2, z3⟩
          all_goals
            go_wp2
            go_roundw
            case rel => exact ⟨j + 1, by go_num, by omega, by rw [HK1.out], HH.out⟩
            case measure => simp [intOf]; omega
        · have k1 : (K : Int) < (ML.length : Int) := by omega
          have k2 : decide ((K : Int) < (ML.length : Int)) = true := decide_eq_true k1
          obtain ⟨bB, oB, rfl, hbB⟩ := HM2.out.row (by omega)
          obtain ⟨d0, d1⟩ := (hbB K hlt2).ext HH.out
          generalize (px ML K).x = FX at *
          have ne : (FX == (j : Int) + 1) = false := beq_eq_false_iff_ne.2 (by omega)
          have ne2 : ¬ FX = (j : Int) + 1 := by omega
          clear hbB d1
          rcases key with rfl | ⟨rfl, rfl⟩ | ⟨rfl, rfl, z1⟩ | ⟨rfl, rfl, z1, z2⟩ | ⟨rfl, rfl, z1, z2, z3⟩
          all_goals
            go_wp2
            go_roundw
            case rel => exact ⟨j + 1, by go_num, by omega, by rw [HK1.out], HH.out⟩
            case measure => simp [intOf]; omega
    · obtain rfl : j = fs.length - 2 := by omega
      have NJ : (((fs.length - 2 : Nat) : Int)) + 1 + 1 = (fs.length : Int) := by omega
      have NK : IntKind.i64.wrap (((fs.length - 2 : Nat) : Int) + 1 + 1) = (fs.length : Int) := by rw [NJ]; exact IntWalk.i64_in _ (by omega)
      rw [hML]
      go_wp2
      go_ret
      exact ⟨rfl, X.out.trans HX.out⟩

end Go.Proofs.Ytkodmdfcppnfoaa.fnManoeuvres
