import Derived.Test.YtmlojndkpnhalaaGreatZof
import Derived.Test.YtmlojndkpnhalaaGreatZon6
namespace Go.Proofs.YtmlojndkpnhalaaGreat.Crs
open Go.ChangeShapes Go.WideShapes Go.ChangeAt Go.RowKit Go.PlainAid
open Go.Proofs.YtmlojndkpnhalaaGreat.Num Go.Proofs.YtmlojndkpnhalaaGreat.Kit Go.Proofs.YtmlojndkpnhalaaGreat.Pts Go.Proofs.YtmlojndkpnhalaaGreat.Seg Go.Proofs.YtmlojndkpnhalaaGreat.Div Go.Proofs.YtmlojndkpnhalaaGreat.Root Go.Proofs.YtmlojndkpnhalaaGreat.Rt Go.Proofs.YtmlojndkpnhalaaGreat.Gcd
open Go.Proofs.YtmlojndkpnhalaaGreat.Trk (F3 Fxs Tr trB fx lastB legOf pkX pkY)
set_option linter.unusedVariables false
set_option linter.unusedSimpArgs false
theorem fx_nn {fs : List F3} (hv : trB fs = true) {k : Nat} (hk : k < fs.length) : 0 ≤ (fx fs k).t := by
  have h := (Trk.trB_yes hv).2 k hk
  unfold Trk.okB Trk.fxB at h
  simp only [Bool.and_eq_true] at h
  exact (of_inB h.1.1).1
theorem ft_time {m : M5} {fs : List F3} (hv : trB fs = true) : 0 ≤ ftT m fs := by
  cases hz : tzL m fs with
  | nil => rw [(ft_nil hz).2]; decide
  | cons x xs =>
    rw [(ft_cons hz).2]
    obtain ⟨r, rfl, hr⟩ := tzl_head hz
    exact fx_nn hv (by simp; omega)
theorem cs_neg {m : M5} {fs : List F3} (h : ftB m fs = false) : csT m fs = -1 := by unfold csT; rw [h]; rfl
theorem cs_pos {m : M5} {fs : List F3} (h : ftB m fs = true) : csT m fs = ftT m fs := by unfold csT; rw [h]; rfl
end Go.Proofs.YtmlojndkpnhalaaGreat.Crs
namespace Go.Proofs.YtmlojndkpnhalaaGreat.Crs
open Go.ChangeShapes Go.WideShapes Go.ChangeAt Go.RowKit Go.PlainAid
open Go.Proofs.YtmlojndkpnhalaaGreat.Num Go.Proofs.YtmlojndkpnhalaaGreat.Kit Go.Proofs.YtmlojndkpnhalaaGreat.Pts Go.Proofs.YtmlojndkpnhalaaGreat.Seg Go.Proofs.YtmlojndkpnhalaaGreat.Div Go.Proofs.YtmlojndkpnhalaaGreat.Root Go.Proofs.YtmlojndkpnhalaaGreat.Rt Go.Proofs.YtmlojndkpnhalaaGreat.Gcd
open Go.Proofs.YtmlojndkpnhalaaGreat.Trk (F3 Fxs Tr trB fx lastB legOf pkX pkY)
set_option linter.unusedVariables false
set_option linter.unusedSimpArgs false
def r2B (m : M5) (fs gs : List F3) : Bool := ftB m fs || ftB m gs
def r2T (m : M5) (fs gs : List F3) : Int := if ftB m gs = false then ftT m fs else if ftB m fs = false then ftT m gs else if ftT m fs ≤ ftT m gs then ftT m fs else ftT m gs
def r2S (m : M5) (fs gs : List F3) : Int := if r2B m fs gs = true then r2T m fs gs else -1
theorem r2_left {m : M5} {fs gs : List F3} (h : ftB m gs = false) : r2B m fs gs = ftB m fs ∧ r2T m fs gs = ftT m fs := by unfold r2B r2T; rw [h, Bool.or_false]; exact ⟨rfl, rfl⟩
theorem r2_right {m : M5} {fs gs : List F3} (h : ftB m fs = false) (g : ftB m gs = true) : r2B m fs gs = true ∧ r2T m fs gs = ftT m gs := by unfold r2B r2T; rw [h, g]; exact ⟨rfl, rfl⟩
theorem r2_both {m : M5} {fs gs : List F3} (h : ftB m fs = true) (g : ftB m gs = true) : r2B m fs gs = true ∧ r2T m fs gs = if ftT m fs ≤ ftT m gs then ftT m fs else ftT m gs := by unfold r2B r2T; rw [h, g]; exact ⟨rfl, rfl⟩
theorem r2_time {m : M5} {fs gs : List F3} (hv : trB fs = true) (hg : trB gs = true) : 0 ≤ r2T m fs gs := by
  have a := ft_time (m := m) hv
  have b := ft_time (m := m) hg
  unfold r2T
  repeat' split
  all_goals assumption
theorem r2_neg {m : M5} {fs gs : List F3} (h : r2B m fs gs = false) : r2S m fs gs = -1 := by unfold r2S; rw [h]; rfl
theorem r2_pos {m : M5} {fs gs : List F3} (h : r2B m fs gs = true) : r2S m fs gs = r2T m fs gs := by unfold r2S; rw [h]; rfl
set_option maxRecDepth 100000 in
set_option maxHeartbeats 4000000 in
theorem roomTime_any (m : M5) (a0 b0 : Option Addr) (ca cb : Nat) (fs gs : List F3) (w : World) (hf : Fxs w a0 fs) (hg : Fxs w b0 gs) (hv : trB fs = true) (hu : trB gs = true) (hm : mkB m = true) :
    Calls Tryz.prog 98 #[MV m, Tr (.slice a0 fs.length ca), Tr (.slice b0 gs.length cb)] w fun e w' => e = .returned (.tuple #[.int .i64 (r2T m fs gs), .bool (r2B m fs gs)]) ∧ Ext w w' := by
  have KA := Lib.hid (fun w' h => firstTouch_any m a0 ca fs w' h hv hm)
  have KB := Lib.hid (fun w' h => firstTouch_any m b0 cb gs w' h hu hm)
  have TA := ft_time (m := m) hv
  have TB := ft_time (m := m) hu
  have HL := Lib.hid (fun h => r2_left (m := m) (fs := fs) (gs := gs) h)
  have HR := Lib.hid (fun h g => r2_right (m := m) (fs := fs) (gs := gs) h g)
  have HB := Lib.hid (fun h g => r2_both (m := m) (fs := fs) (gs := gs) h g)
  obtain ⟨W0, hW0⟩ : ∃ W0, W0 = ((w.alloc (.cells #[.string m.n, .int .i64 m.x, .int .i64 m.y, .int .i64 m.s, .int .i64 m.z] 145)).alloc (.cells #[.slice a0 fs.length ca] 33)).alloc (.cells #[.slice b0 gs.length cb] 33) := ⟨_, rfl⟩
  have hX : Ext w W0 := hW0 ▸ ((((Ext.refl w).alloc _).alloc _).alloc _)
  have hs0 : W0.heap.size = w.heap.size + 1 + 1 + 1 := by rw [hW0]; simp
  have e00 : ∀ w', (Ext W0) w' → w'.cell? ⟨w.heap.size, 0, none⟩ = some (.string m.n) := fun w' h => h.cellOf (by rw [hW0]; exact (((Ext.refl _).alloc _).alloc _).cellOf (boxed 0 rfl (by simp)))
  have e01 : ∀ w', (Ext W0) w' → w'.cell? ⟨w.heap.size, 1, none⟩ = some (.int .i64 m.x) := fun w' h => h.cellOf (by rw [hW0]; exact (((Ext.refl _).alloc _).alloc _).cellOf (boxed 1 rfl (by simp)))
  have e02 : ∀ w', (Ext W0) w' → w'.cell? ⟨w.heap.size, 2, none⟩ = some (.int .i64 m.y) := fun w' h => h.cellOf (by rw [hW0]; exact (((Ext.refl _).alloc _).alloc _).cellOf (boxed 2 rfl (by simp)))
  have e03 : ∀ w', (Ext W0) w' → w'.cell? ⟨w.heap.size, 3, none⟩ = some (.int .i64 m.s) := fun w' h => h.cellOf (by rw [hW0]; exact (((Ext.refl _).alloc _).alloc _).cellOf (boxed 3 rfl (by simp)))
  have e04 : ∀ w', (Ext W0) w' → w'.cell? ⟨w.heap.size, 4, none⟩ = some (.int .i64 m.z) := fun w' h => h.cellOf (by rw [hW0]; exact (((Ext.refl _).alloc _).alloc _).cellOf (boxed 4 rfl (by simp)))
  have e10 : ∀ w', (Ext W0) w' → w'.cell? ⟨w.heap.size + 1, 0, none⟩ = some (.slice a0 fs.length ca) := fun w' h => h.cellOf (by rw [hW0]; exact ((Ext.refl _).alloc _).cellOf (boxed 0 rfl (by simp)))
  have e20 : ∀ w', (Ext W0) w' → w'.cell? ⟨w.heap.size + 1 + 1, 0, none⟩ = some (.slice b0 gs.length cb) := fun w' h => h.cellOf (by rw [hW0]; exact boxed 0 rfl (by simp))
  have HF := Lib.hid (hf.ext hX)
  have HG := Lib.hid (hg.ext hX)
  clear hf hg hv hu hm
  generalize r2T m fs gs = RT at *
  generalize r2B m fs gs = RB at *
  have hr := Ext.refl W0
  go_enter Tryz.func98, Tryz.ntmps98
  go_wp2_with fail
  rw [← hW0]
  clear hW0
  refine (KA.out _ HF.out).mono ?_
  rintro e w1 ⟨rfl, hz⟩
  replace hz : Ext W0 w1 := hz
  have g00 := e00 w1 hz; have g01 := e01 w1 hz; have g02 := e02 w1 hz; have g03 := e03 w1 hz; have g04 := e04 w1 hz; have g20 := e20 w1 hz
  clear hr
  go_wp2_with fail
  refine (KB.out _ (HG.out.ext hz)).mono ?_
  rintro e w2 ⟨rfl, hy⟩
  replace hz := Lib.hid (hz.trans hy)
  clear hy g00 g01 g02 g03 g04 g20 e00 e01 e02 e03 e04 e10 e20
  cases h2 : ftB m gs
  · have H := Lib.hid (HL.out h2)
    generalize ftT m fs = T at *
    generalize ftB m fs = B at *
    go_wp2
    go_ret2
    exact ⟨ret_ib2 H.out.2 H.out.1, hX.trans hz.out⟩
  cases h1 : ftB m fs
  · have H := Lib.hid (HR.out h1 h2)
    generalize ftT m gs = T at *
    go_wp2
    go_ret2
    exact ⟨ret_ib2 H.out.2 H.out.1, hX.trans hz.out⟩
  have H0 := HB.out h1 h2
  generalize ftT m fs = T at *
  generalize ftT m gs = U at *
  by_cases h3 : T ≤ U
  · rw [if_pos h3] at H0
    have H := Lib.hid H0
    clear H0
    have hmin : min T U = T := by omega
    go_wp2
    go_ret2
    exact ⟨ret_ib2 H.out.2 H.out.1, hX.trans hz.out⟩
  · rw [if_neg h3] at H0
    have H := Lib.hid H0
    clear H0
    have hmin : min T U = U := by omega
    go_wp2
    go_ret2
    exact ⟨ret_ib2 H.out.2 H.out.1, hX.trans hz.out⟩
set_option maxRecDepth 100000 in
set_option maxHeartbeats 4000000 in
theorem time_spec (m : M5) (a0 b0 : Option Addr) (ca cb : Nat) (fs gs : List F3) (w : World) (hf : Fxs w a0 fs) (hg : Fxs w b0 gs) (hv : trB fs = true) (hu : trB gs = true) (hm : mkB m = true) :
    Calls Tryz.prog 99 #[MV m, Tr (.slice a0 fs.length ca), Tr (.slice b0 gs.length cb)] w fun e w' => e = .returned (.int .i64 (r2S m fs gs)) ∧ Ext w w' := by
  have KA := Lib.hid (fun w' h => comes_spec m a0 ca fs w' h hv hm)
  have KB := Lib.hid (fun w' h => comes_spec m b0 cb gs w' h hu hm)
  have TA := ft_time (m := m) hv
  have TB := ft_time (m := m) hu
  have key : (csT m fs < 0 ∧ r2S m fs gs = csT m gs) ∨ (¬ csT m fs < 0 ∧ csT m gs < 0 ∧ r2S m fs gs = csT m fs) ∨ (¬ csT m fs < 0 ∧ ¬ csT m gs < 0 ∧ csT m gs < csT m fs ∧ r2S m fs gs = csT m gs) ∨ (¬ csT m fs < 0 ∧ ¬ csT m gs < 0 ∧ ¬ csT m gs < csT m fs ∧ r2S m fs gs = csT m fs) := by
    cases h1 : ftB m fs <;> cases h2 : ftB m gs
    · refine .inl ⟨by rw [cs_neg h1]; decide, ?_⟩
      rw [cs_neg h2, r2_neg (by unfold r2B; rw [h1, h2]; rfl)]
    · refine .inl ⟨by rw [cs_neg h1]; decide, ?_⟩
      rw [cs_pos h2, r2_pos (r2_right h1 h2).1, (r2_right h1 h2).2]
    · refine .inr (.inl ⟨by rw [cs_pos h1]; omega, by rw [cs_neg h2]; decide, ?_⟩)
      rw [cs_pos h1, r2_pos ((r2_left h2).1.trans h1), (r2_left h2).2]
    · rw [cs_pos h1, cs_pos h2, r2_pos (r2_both h1 h2).1, (r2_both h1 h2).2]
      by_cases h3 : ftT m gs < ftT m fs
      · exact .inr (.inr (.inl ⟨by omega, by omega, h3, if_neg (by omega)⟩))
      · exact .inr (.inr (.inr ⟨by omega, by omega, h3, if_pos (by omega)⟩))
  generalize r2S m fs gs = R at *
  obtain ⟨W0, hW0⟩ : ∃ W0, W0 = ((w.alloc (.cells #[.string m.n, .int .i64 m.x, .int .i64 m.y, .int .i64 m.s, .int .i64 m.z] 145)).alloc (.cells #[.slice a0 fs.length ca] 33)).alloc (.cells #[.slice b0 gs.length cb] 33) := ⟨_, rfl⟩
  have hX : Ext w W0 := hW0 ▸ ((((Ext.refl w).alloc _).alloc _).alloc _)
  have hs0 : W0.heap.size = w.heap.size + 1 + 1 + 1 := by rw [hW0]; simp
  have e00 : ∀ w', (Ext W0) w' → w'.cell? ⟨w.heap.size, 0, none⟩ = some (.string m.n) := fun w' h => h.cellOf (by rw [hW0]; exact (((Ext.refl _).alloc _).alloc _).cellOf (boxed 0 rfl (by simp)))
  have e01 : ∀ w', (Ext W0) w' → w'.cell? ⟨w.heap.size, 1, none⟩ = some (.int .i64 m.x) := fun w' h => h.cellOf (by rw [hW0]; exact (((Ext.refl _).alloc _).alloc _).cellOf (boxed 1 rfl (by simp)))
  have e02 : ∀ w', (Ext W0) w' → w'.cell? ⟨w.heap.size, 2, none⟩ = some (.int .i64 m.y) := fun w' h => h.cellOf (by rw [hW0]; exact (((Ext.refl _).alloc _).alloc _).cellOf (boxed 2 rfl (by simp)))
  have e03 : ∀ w', (Ext W0) w' → w'.cell? ⟨w.heap.size, 3, none⟩ = some (.int .i64 m.s) := fun w' h => h.cellOf (by rw [hW0]; exact (((Ext.refl _).alloc _).alloc _).cellOf (boxed 3 rfl (by simp)))
  have e04 : ∀ w', (Ext W0) w' → w'.cell? ⟨w.heap.size, 4, none⟩ = some (.int .i64 m.z) := fun w' h => h.cellOf (by rw [hW0]; exact (((Ext.refl _).alloc _).alloc _).cellOf (boxed 4 rfl (by simp)))
  have e10 : ∀ w', (Ext W0) w' → w'.cell? ⟨w.heap.size + 1, 0, none⟩ = some (.slice a0 fs.length ca) := fun w' h => h.cellOf (by rw [hW0]; exact ((Ext.refl _).alloc _).cellOf (boxed 0 rfl (by simp)))
  have e20 : ∀ w', (Ext W0) w' → w'.cell? ⟨w.heap.size + 1 + 1, 0, none⟩ = some (.slice b0 gs.length cb) := fun w' h => h.cellOf (by rw [hW0]; exact boxed 0 rfl (by simp))
  have HF := Lib.hid (hf.ext hX)
  have HG := Lib.hid (hg.ext hX)
  clear hf hg hv hu hm TA TB
  generalize csT m fs = T at *
  generalize csT m gs = U at *
  have hr := Ext.refl W0
  go_enter Tryz.func99, Tryz.ntmps99
  go_wp2_with fail
  rw [← hW0]
  clear hW0
  rcases key with ⟨h1, rfl⟩ | ⟨h1, h2, rfl⟩ | ⟨h1, h2, h3, rfl⟩ | ⟨h1, h2, h3, rfl⟩
  all_goals
    refine wp_region_held_drew (S := (fun w' => Ext W0 w')) (by kernel_rfl) (by (try dsimp only); first | go_keep | exact (Ext.refl _).drew | exact Res.new2.drew | exact Res.new4.drew | exact ResB.drew (by assumption) | exact ResC.drew (by assumption) | assumption | exact Ext.drew (by assumption) | exact Res.drew (by assumption)) (fun hHeld => ?_)
    refine Ord.K 0 9 ?_
    refine Ord.K 1 10 ?_
    refine Ord.K 3 12 ?_
    refine Ord.K 4 13 ?_
    (refine wpAnyH_ready (rs := [2]) (by kernel_rfl) (by simp) ?_; refine AllReadyH.cons rfl (fun K hK => ?_) AllReadyH.nil; go_simp; (first | (go_at_call 174; with_reducible refine (KA.out _ (HF.out.ext (by first | assumption | exact (Ext.refl _).drew))).mono ?_; rintro e w4 ⟨rfl, hy⟩) | (go_at_call 174; with_reducible refine (KB.out _ (HG.out.ext (by first | assumption | exact (Ext.refl _).drew))).mono ?_; rintro e w4 ⟨rfl, hy⟩)); go_wp2_with fail; (refine hK.out _ _ (by first | assumption | exact Ext.trans (by assumption) hy | exact Res.ext (by assumption) hy | exact ResB.ext (by assumption) hy | exact ResC.ext (by assumption) hy | (go_split_ands; (repeat' apply And.intro) <;> exact Ext.cellOf hy (by assumption))) (fun hHeld => ?_)); clear hK K; (try simp only [Act.put, Ord.a, Ord.b, Ord.c]))
    (refine wpAnyH_ready (rs := [5]) (by kernel_rfl) (by simp) ?_; refine AllReadyH.cons rfl (fun K hK => ?_) AllReadyH.nil; go_simp; (first | (go_at_call 174; with_reducible refine (KA.out _ (HF.out.ext (by first | assumption | exact (Ext.refl _).drew))).mono ?_; rintro e w4 ⟨rfl, hy⟩) | (go_at_call 174; with_reducible refine (KB.out _ (HG.out.ext (by first | assumption | exact (Ext.refl _).drew))).mono ?_; rintro e w4 ⟨rfl, hy⟩)); go_wp2_with fail; (refine hK.out _ _ (by first | assumption | exact Ext.trans (by assumption) hy | exact Res.ext (by assumption) hy | exact ResB.ext (by assumption) hy | exact ResC.ext (by assumption) hy | (go_split_ands; (repeat' apply And.intro) <;> exact Ext.cellOf hy (by assumption))) (fun hHeld => ?_)); clear hK K; (try simp only [Act.put, Ord.a, Ord.b, Ord.c]))
    refine Ord.K 6 7 ?_
    refine Ord.K 7 8 ?_
    refine wpAnyH_done (by kernel_rfl) ?_ _
    have X3 := Lib.hid (hX.trans hHeld)
    try have h2' : 0 ≤ U := by omega
    go_wp2
    go_ret
    exact ⟨rfl, X3.out⟩
end Go.Proofs.YtmlojndkpnhalaaGreat.Crs
namespace Go.Proofs.YtmlojndkpnhalaaGreat.Crs
open Go.ChangeShapes Go.WideShapes Go.ChangeAt Go.RowKit Go.PlainAid
open Go.Proofs.YtmlojndkpnhalaaGreat.Num Go.Proofs.YtmlojndkpnhalaaGreat.Kit Go.Proofs.YtmlojndkpnhalaaGreat.Pts Go.Proofs.YtmlojndkpnhalaaGreat.Seg Go.Proofs.YtmlojndkpnhalaaGreat.Div Go.Proofs.YtmlojndkpnhalaaGreat.Root Go.Proofs.YtmlojndkpnhalaaGreat.Rt Go.Proofs.YtmlojndkpnhalaaGreat.Gcd
open Go.Proofs.YtmlojndkpnhalaaGreat.Trk (F3 Fxs Tr trB fx lastB legOf pkX pkY)
set_option linter.unusedVariables false
set_option linter.unusedSimpArgs false
theorem Tks.two {w : World} {b : Nat} {t u : T1} (h : w.cell? ⟨b, 0, none⟩ = some (TV t)) (k : w.cell? ⟨b, 1, none⟩ = some (TV u)) (hf : Fxs w t.a t.fs) (hg : Fxs w u.a u.fs) : Tks w (some ⟨b, 0, none⟩) [t, u] := by
  refine ⟨by unfold maxLen; simp, fun i hi => ?_, .inr ⟨b, 0, rfl, fun i hi => ?_⟩⟩
  · obtain rfl | rfl : i = 0 ∨ i = 1 := by simp at hi; omega
    · exact hf
    · exact hg
  · obtain rfl | rfl : i = 0 ∨ i = 1 := by simp at hi; omega
    · exact h
    · exact k
theorem tsB_two (t u : T1) : tsB [t, u] = (trB t.fs && trB u.fs) := by
  simp [tsB, List.range_succ, tkB, tk]
theorem mf_one {l k : L4} {ms : List M5} {ok : Bool} {n : Int} (h : mfC l k ms ok n = 1) : mfC l k ms ok n ≠ 0 := by rw [h]; decide
end Go.Proofs.YtmlojndkpnhalaaGreat.Crs
