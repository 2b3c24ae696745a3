/- TackAt of both. -/
import Derived.Test.YtkodmdfcppnfoaaWnd2
import Derived.Test.YtkodmdfcppnfoaaHead
namespace Go.Proofs.Ytkodmdfcppnfoaa.Wnd
open Go.ChangeShapes Go.WideShapes Go.ChangeAt Go.RowKit
open Go.Proofs.Ytkodmdfcppnfoaa.Num Go.Proofs.Ytkodmdfcppnfoaa.Kit Go.Proofs.Ytkodmdfcppnfoaa.Pts Go.Proofs.Ytkodmdfcppnfoaa.Seg Go.Proofs.Ytkodmdfcppnfoaa.Gcd
open Go.Proofs.Ytkodmdfcppnfoaa.Trk (F3 Fxs Tr trB fx hdX hdY heX heY heC headingAt_impl headingAt_spec isTrack_spec one_on leg_bounds legOf legOf_lt trB_yes ctI ctI_zero he_no he_zero he_yes hzB)
set_option linter.unusedVariables false
set_option linter.unusedSimpArgs false

theorem hd_bd {fs : List F3} {k : Nat} (hv : trB fs = true) (hk : k + 1 < fs.length) : (-2000000 ≤ hdX fs k ∧ hdX fs k ≤ 2000000) ∧ -2000000 ≤ hdY fs k ∧ hdY fs k ≤ 2000000 := by
  obtain ⟨⟨a, b, c, d⟩, _, _⟩ := leg_bounds hv hk
  unfold hdX hdY; omega
theorem heC_bad {fs : List F3} {t : Int} (h : trB fs = false) : heC fs t = 1 := by
  have e : ctI fs t = 1 := by unfold ctI; rw [h]; rfl
  rw [(he_no (by rw [e]; decide)).1, e]
theorem he_ok {fs : List F3} {t : Int} (h : heC fs t = 0) : trB fs = true ∧ ((-2000000 ≤ heX fs t ∧ heX fs t ≤ 2000000) ∧ -2000000 ≤ heY fs t ∧ heY fs t ≤ 2000000) ∧ ¬ (heX fs t = 0 ∧ heY fs t = 0) := by
  by_cases hc : ctI fs t = 0
  · obtain ⟨hv, _⟩ := ctI_zero hc
    cases hz : hzB fs t
    · obtain ⟨_, e1, e2⟩ := he_yes hc hz
      rw [e1, e2]
      refine ⟨hv, hd_bd hv (legOf_lt t (trB_yes hv).1.1), ?_⟩
      rintro ⟨h1, h2⟩
      unfold hzB at hz; rw [h1, h2] at hz; cases hz
    · rw [(he_zero hc hz).1] at h; cases h
  · rw [(he_no hc).1] at h; exact absurd h hc
/-- The answers of TackAt. -/
def taC (x y : Int) (fs : List F3) (t : Int) : Int := if wdB x y = true then heC fs t else 1
def taV (x y : Int) (fs : List F3) (t : Int) : Int := if taC x y fs t = 0 then tkN (heX fs t * y - heY fs t * x) else 0

set_option maxHeartbeats 2000000 in
theorem tackAt_impl (x y : Int) (a : Option Addr) (cap : Nat) (fs : List F3) (t : Int) (w : World) (hf : Fxs w a fs) (hcap : fs.length ≤ cap) :
    Calls Try.prog 21 #[Pt x y, Tr (.slice a fs.length cap), .int .i64 t] w fun e w' => e = .returned (.tuple #[.int .i64 (taV x y fs t), .int .i64 (taC x y fs t)]) ∧ Ext w w' := by
  have HF := Lib.hid hf
  clear hf
  obtain ⟨W0, hW0⟩ : ∃ W0, W0 = (w.alloc (.cells #[.int .i64 x, .int .i64 y] 25)).alloc (.cells #[.slice a fs.length cap] 33) := ⟨_, rfl⟩
  have hX : Ext w W0 := hW0 ▸ (((Ext.refl w).alloc _).alloc _)
  have hs0 : W0.heap.size = w.heap.size + 1 + 1 := by rw [hW0]; simp
  have e00 : ∀ w', (Ext W0) w' → w'.cell? ⟨w.heap.size, 0, none⟩ = some (.int .i64 x) := fun w' h => h.cellOf (by rw [hW0]; exact ((Ext.refl _).alloc _).cellOf (boxed 0 rfl (by simp)))
  have e01 : ∀ w', (Ext W0) w' → w'.cell? ⟨w.heap.size, 1, none⟩ = some (.int .i64 y) := fun w' h => h.cellOf (by rw [hW0]; exact ((Ext.refl _).alloc _).cellOf (boxed 1 rfl (by simp)))
  have e10 : ∀ w', (Ext W0) w' → w'.cell? ⟨w.heap.size + 1, 0, none⟩ = some (.slice a fs.length cap) := fun w' h => h.cellOf (by rw [hW0]; exact boxed 0 rfl (by simp))
  go_enter Try.func21, Try.ntmps21
  go_wp2_with fail
  refine (windValid_any _ _ _).mono ?_
  rintro e w1 ⟨rfl, hz⟩
  rw [← hW0] at hz
  clear hW0
  replace hz : Ext W0 w1 := hz
  cases h1 : wdB x y
  · have HC := Lib.hid (show taC x y fs t = 1 by unfold taC; rw [h1]; rfl)
    have HQ := Lib.hid (show taV x y fs t = 0 by unfold taV; rw [HC.out]; rfl)
    go_wp2
    go_ret2
    exact ⟨ret_int2 HQ.out HC.out, hX.trans hz⟩
  have HC := Lib.hid (show taC x y fs t = heC fs t by unfold taC; rw [h1]; rfl)
  have g10 := e10 w1 hz
  go_wp2_with fail
  refine (headingAt_impl _ _ _ _ _ (HF.out.ext (hX.trans hz)) hcap).mono ?_
  rintro e w2 ⟨rfl, hy⟩
  replace hz := hz.trans hy
  clear hy g10
  by_cases hc : heC fs t = 0
  · have HQ := Lib.hid (show taV x y fs t = tkN (heX fs t * y - heY fs t * x) by unfold taV; rw [HC.out, if_pos hc])
    rw [hc] at HC ⊢
    obtain ⟨_, ⟨b1, b2⟩, _⟩ := he_ok hc
    obtain ⟨a1, a2, _⟩ := wdB_yes h1
    have A := Lib.hid (And.intro a1 (And.intro a2 (And.intro b1 b2)))
    clear hc a1 a2 b1 b2
    generalize heX fs t = p at *
    generalize heY fs t = q at *
    obtain ⟨W5, hW5⟩ : ∃ W5, W5 = w2.alloc (.cells #[.int .i64 p, .int .i64 q] 26) := ⟨_, rfl⟩
    have hz5 : Ext W0 W5 := hW5 ▸ (hz.alloc _)
    have v0 : ∀ w', Ext W5 w' → w'.cell? ⟨w2.heap.size, 0, none⟩ = some (.int .i64 p) := fun w' h => h.cellOf (hW5 ▸ boxed 0 rfl rfl)
    have v1 : ∀ w', Ext W5 w' → w'.cell? ⟨w2.heap.size, 1, none⟩ = some (.int .i64 q) := fun w' h => h.cellOf (hW5 ▸ boxed 1 rfl rfl)
    replace e00 : ∀ w', Ext W5 w' → w'.cell? ⟨w.heap.size, 0, none⟩ = some (.int .i64 x) := fun w' h => e00 w' (hz5.trans h)
    replace e01 : ∀ w', Ext W5 w' → w'.cell? ⟨w.heap.size, 1, none⟩ = some (.int .i64 y) := fun w' h => e01 w' (hz5.trans h)
    have hr := Ext.refl W5
    clear e10
    go_upto_region 6 with fail
    rw [← hW5]
    clear hW5 hz
    refine wp_region_held_drew (S := (fun w' => Ext W5 w')) (by kernel_rfl) (by (try dsimp only); first | go_keep | exact (Ext.refl _).drew | exact Res.new2.drew | exact Res.new4.drew | exact ResB.drew (by assumption) | exact ResC.drew (by assumption) | assumption | exact Ext.drew (by assumption) | exact Res.drew (by assumption)) (fun hHeld => ?_)
    (refine Ord.k 0 22 (v := ?_) ?_ ?_; rotate_left; (intro w h; (try dsimp only at h); go_simp; (try with_reducible rfl)); (try simp only [Act.put, Ord.a, Ord.b, Ord.c]))
    (refine Ord.k 2 24 (v := ?_) ?_ ?_; rotate_left; (intro w h; (try dsimp only at h); go_simp; (try with_reducible rfl)); (try simp only [Act.put, Ord.a, Ord.b, Ord.c]))
    (refine wpAnyH_ready (rs := [1]) (by kernel_rfl) (by simp) ?_; refine AllReadyH.cons rfl (fun K hK => ?_) AllReadyH.nil; go_simp; (first | (go_at_call 50; refine (teller_any _ _ _).mono ?_; rintro e w3 ⟨k, rfl, hk, hb, hy⟩) | (go_at_call 87; refine (tell_any _ _ _ _ _ _ hb A.out.1 A.out.2.1 A.out.2.2.1 A.out.2.2.2).mono ?_; rintro e w4 ⟨rfl, hy⟩)); go_wp2_with fail; (refine hK.out _ _ (by first | assumption | exact Ext.trans (by assumption) hy | exact Res.ext (by assumption) hy | exact ResB.ext (by assumption) hy | exact ResC.ext (by assumption) hy | (go_split_ands; (repeat' apply And.intro) <;> exact Ext.cellOf hy (by assumption))) (fun hHeld => ?_)); clear hK K; (try simp only [Act.put, Ord.a, Ord.b, Ord.c]))
    (refine wpAnyH_ready (rs := [3]) (by kernel_rfl) (by simp) ?_; refine AllReadyH.cons rfl (fun K hK => ?_) AllReadyH.nil; go_simp; (first | (go_at_call 50; refine (teller_any _ _ _).mono ?_; rintro e w3 ⟨k, rfl, hk, hb, hy⟩) | (go_at_call 87; refine (tell_any _ _ _ _ _ _ hb A.out.1 A.out.2.1 A.out.2.2.1 A.out.2.2.2).mono ?_; rintro e w4 ⟨rfl, hy⟩)); go_wp2_with fail; (refine hK.out _ _ (by first | assumption | exact Ext.trans (by assumption) hy | exact Res.ext (by assumption) hy | exact ResB.ext (by assumption) hy | exact ResC.ext (by assumption) hy | (go_split_ands; (repeat' apply And.intro) <;> exact Ext.cellOf hy (by assumption))) (fun hHeld => ?_)); clear hK K; (try simp only [Act.put, Ord.a, Ord.b, Ord.c]))
    (refine Ord.k 4 6 (v := ?_) ?_ ?_; rotate_left; (intro w h; (try dsimp only at h); go_simp; (try with_reducible rfl)); (try simp only [Act.put, Ord.a, Ord.b, Ord.c]))
    (refine Ord.k 5 7 (v := ?_) ?_ ?_; rotate_left; (intro w h; (try dsimp only at h); go_simp; (try with_reducible rfl)); (try simp only [Act.put, Ord.a, Ord.b, Ord.c]))
    refine wpAnyH_done (by kernel_rfl) ?_ _
    go_wp2
    go_ret2
    exact ⟨ret_int2 HQ.out HC.out, hX.trans (hz5.trans (by assumption))⟩
  · have HQ := Lib.hid (show taV x y fs t = 0 by unfold taV; rw [HC.out, if_neg hc])
    have hc2 : (heC fs t != 0) = true := by simpa using hc
    go_wp2
    go_ret2
    exact ⟨ret_int2 HQ.out HC.out, hX.trans (hz.alloc _)⟩

set_option maxHeartbeats 1000000 in
theorem tackAt_spec (x y : Int) (a : Option Addr) (cap : Nat) (fs : List F3) (t : Int) (w : World) (hf : Fxs w a fs) :
    Calls Try.prog 35 #[Pt x y, Tr (.slice a fs.length cap), .int .i64 t] w fun e w' => e = .returned (.tuple #[.int .i64 (taV x y fs t), .int .i64 (taC x y fs t)]) ∧ Ext w w' := by
  have HF := Lib.hid hf
  clear hf
  obtain ⟨W0, hW0⟩ : ∃ W0, W0 = (w.alloc (.cells #[.int .i64 x, .int .i64 y] 25)).alloc (.cells #[.slice a fs.length cap] 33) := ⟨_, rfl⟩
  have hX : Ext w W0 := hW0 ▸ (((Ext.refl w).alloc _).alloc _)
  have hs0 : W0.heap.size = w.heap.size + 1 + 1 := by rw [hW0]; simp
  have e00 : ∀ w', (Ext W0) w' → w'.cell? ⟨w.heap.size, 0, none⟩ = some (.int .i64 x) := fun w' h => h.cellOf (by rw [hW0]; exact ((Ext.refl _).alloc _).cellOf (boxed 0 rfl (by simp)))
  have e01 : ∀ w', (Ext W0) w' → w'.cell? ⟨w.heap.size, 1, none⟩ = some (.int .i64 y) := fun w' h => h.cellOf (by rw [hW0]; exact ((Ext.refl _).alloc _).cellOf (boxed 1 rfl (by simp)))
  have e10 : ∀ w', (Ext W0) w' → w'.cell? ⟨w.heap.size + 1, 0, none⟩ = some (.slice a fs.length cap) := fun w' h => h.cellOf (by rw [hW0]; exact boxed 0 rfl (by simp))
  go_enter Try.func35, Try.ntmps35
  go_wp2_with fail
  refine (isWind_spec _ _ _).mono ?_
  rintro e w1 ⟨rfl, hz⟩
  rw [← hW0] at hz
  clear hW0
  replace hz : Ext W0 w1 := hz
  cases h1 : wdB x y
  · have HC := Lib.hid (show taC x y fs t = 1 by unfold taC; rw [h1]; rfl)
    have HQ := Lib.hid (show taV x y fs t = 0 by unfold taV; rw [HC.out]; rfl)
    go_wp2
    go_ret2
    exact ⟨ret_int2 HQ.out HC.out, hX.trans hz⟩
  have HC := Lib.hid (show taC x y fs t = heC fs t by unfold taC; rw [h1]; rfl)
  have g10 := e10 w1 hz
  go_wp2_with fail
  refine (isTrack_spec _ _ _ _ (HF.out.ext (hX.trans hz))).mono ?_
  rintro e w1' ⟨rfl, hy⟩
  replace hz := hz.trans hy
  clear hy g10
  cases hv : trB fs
  · have HD := Lib.hid (heC_bad (t := t) hv)
    have HQ := Lib.hid (show taV x y fs t = 0 by unfold taV; rw [HC.out, HD.out]; rfl)
    replace HC := Lib.hid (HC.out.trans HD.out)
    go_wp2
    go_ret2
    exact ⟨ret_int2 HQ.out HC.out, hX.trans hz⟩
  have g10 := e10 w1' hz
  go_wp2_with fail
  refine (headingAt_spec _ _ _ _ _ (HF.out.ext (hX.trans hz))).mono ?_
  rintro e w2 ⟨rfl, hy⟩
  replace hz := hz.trans hy
  clear hy g10
  by_cases hc : heC fs t = 0
  · have HQ := Lib.hid (show taV x y fs t = tkN (heX fs t * y - heY fs t * x) by unfold taV; rw [HC.out, if_pos hc])
    rw [hc] at HC ⊢
    obtain ⟨_, ⟨b1, b2⟩, _⟩ := he_ok hc
    obtain ⟨a1, a2, _⟩ := wdB_yes h1
    have A := Lib.hid (And.intro a1 (And.intro a2 (And.intro b1 b2)))
    have g00 := one_on (e00 w2 hz)
    have g01 := one_on (e01 w2 hz)
    clear hc a1 a2 b1 b2
    generalize heX fs t = p at *
    generalize heY fs t = q at *
    go_wp2_with fail
    refine (tackS_any _ _ _ _ _ A.out.1 A.out.2.1 A.out.2.2.1 A.out.2.2.2).mono ?_
    rintro e w3 ⟨rfl, hy⟩
    go_wp2
    go_ret2
    exact ⟨ret_int2 HQ.out HC.out, hX.trans ((hz.alloc _).trans hy)⟩
  · have HQ := Lib.hid (show taV x y fs t = 0 by unfold taV; rw [HC.out, if_neg hc])
    have hc2 : (heC fs t != 0) = true := by simpa using hc
    go_wp2
    go_ret2
    exact ⟨ret_int2 HQ.out HC.out, hX.trans (hz.alloc _)⟩

end Go.Proofs.Ytkodmdfcppnfoaa.Wnd
