import Derived.Test.YtcangdcakgcpaaaGreatRma
namespace Go.Proofs.YtcangdcakgcpaaaGreat.Crs
open Go.ChangeShapes Go.WideShapes Go.ChangeAt Go.RowKit Go.PlainAid
open Go.Proofs.YtcangdcakgcpaaaGreat.Num Go.Proofs.YtcangdcakgcpaaaGreat.Kit Go.Proofs.YtcangdcakgcpaaaGreat.Pts Go.Proofs.YtcangdcakgcpaaaGreat.Seg Go.Proofs.YtcangdcakgcpaaaGreat.Div Go.Proofs.YtcangdcakgcpaaaGreat.Root Go.Proofs.YtcangdcakgcpaaaGreat.Rt Go.Proofs.YtcangdcakgcpaaaGreat.Gcd
open Go.Proofs.YtcangdcakgcpaaaGreat.Trk (F3 Fxs Tr trB fx)
set_option linter.unusedVariables false
set_option linter.unusedSimpArgs false
def r2B (m : M5) (fs gs : List F3) : Bool := ftB m fs || ftB m gs
def r2T (m : M5) (fs gs : List F3) : Int := if ftB m gs = false then ftT m fs else if ftB m fs = false then ftT m gs else if ftT m fs ≤ ftT m gs then ftT m fs else ftT m gs
def r2S (m : M5) (fs gs : List F3) : Int := if r2B m fs gs = true then r2T m fs gs else -1
theorem r2_left {m : M5} {fs gs : List F3} (h : ftB m gs = false) : r2B m fs gs = ftB m fs ∧ r2T m fs gs = ftT m fs := by unfold r2B r2T; rw [h, Bool.or_false]; exact ⟨rfl, rfl⟩
theorem r2_right {m : M5} {fs gs : List F3} (h : ftB m fs = false) (g : ftB m gs = true) : r2B m fs gs = true ∧ r2T m fs gs = ftT m gs := by unfold r2B r2T; rw [h, g]; exact ⟨rfl, rfl⟩
theorem r2_both {m : M5} {fs gs : List F3} (h : ftB m fs = true) (g : ftB m gs = true) : r2B m fs gs = true ∧ r2T m fs gs = if ftT m fs ≤ ftT m gs then ftT m fs else ftT m gs := by unfold r2B r2T; rw [h, g]; exact ⟨rfl, rfl⟩
theorem r2_time {m : M5} {fs gs : List F3} (hv : trB fs = true) (hg : trB gs = true) : 0 ≤ r2T m fs gs := by
  have a := ft_time (m := m) hv
  have b := ft_time (m := m) hg
  unfold r2T
  repeat' split
  all_goals assumption
theorem r2_neg {m : M5} {fs gs : List F3} (h : r2B m fs gs = false) : r2S m fs gs = -1 := by unfold r2S; rw [h]; rfl
theorem r2_pos {m : M5} {fs gs : List F3} (h : r2B m fs gs = true) : r2S m fs gs = r2T m fs gs := by unfold r2S; rw [h]; rfl
set_option maxRecDepth 100000 in
set_option maxHeartbeats 4000000 in
theorem roomTime_any (m : M5) (a0 b0 : Option Addr) (ca cb : Nat) (fs gs : List F3) (w : World) (hf : Fxs w a0 fs) (hg : Fxs w b0 gs) (hv : trB fs = true) (hu : trB gs = true) (hm : mkB m = true) :
    Calls Tryz.prog 51 #[MV m, Tr (.slice a0 fs.length ca), Tr (.slice b0 gs.length cb)] w fun e w' => e = .returned (.tuple #[.int .i64 (r2T m fs gs), .bool (r2B m fs gs)]) ∧ Ext w w' := by
  have KA := Lib.hid (fun w' h => firstTouch_any m a0 ca fs w' h hv hm)
  have KB := Lib.hid (fun w' h => firstTouch_any m b0 cb gs w' h hu hm)
  have TA := ft_time (m := m) hv
  have TB := ft_time (m := m) hu
  have HL := Lib.hid (fun h => r2_left (m := m) (fs := fs) (gs := gs) h)
  have HR := Lib.hid (fun h g => r2_right (m := m) (fs := fs) (gs := gs) h g)
  have HB := Lib.hid (fun h g => r2_both (m := m) (fs := fs) (gs := gs) h g)
  obtain ⟨W0, hW0⟩ : ∃ W0, W0 = ((w.alloc (.cells #[.string m.n, .int .i64 m.x, .int .i64 m.y, .int .i64 m.s, .int .i64 m.z] 93)).alloc (.cells #[.slice a0 fs.length ca] 41)).alloc (.cells #[.slice b0 gs.length cb] 41) := ⟨_, rfl⟩
  have hX : Ext w W0 := hW0 ▸ ((((Ext.refl w).alloc _).alloc _).alloc _)
  have hs0 : W0.heap.size = w.heap.size + 1 + 1 + 1 := by rw [hW0]; simp
  have e00 : ∀ w', (Ext W0) w' → w'.cell? ⟨w.heap.size, 0, none⟩ = some (.string m.n) := fun w' h => h.cellOf (by rw [hW0]; exact (((Ext.refl _).alloc _).alloc _).cellOf (boxed 0 rfl (by simp)))
  have e01 : ∀ w', (Ext W0) w' → w'.cell? ⟨w.heap.size, 1, none⟩ = some (.int .i64 m.x) := fun w' h => h.cellOf (by rw [hW0]; exact (((Ext.refl _).alloc _).alloc _).cellOf (boxed 1 rfl (by simp)))
  have e02 : ∀ w', (Ext W0) w' → w'.cell? ⟨w.heap.size, 2, none⟩ = some (.int .i64 m.y) := fun w' h => h.cellOf (by rw [hW0]; exact (((Ext.refl _).alloc _).alloc _).cellOf (boxed 2 rfl (by simp)))
  have e03 : ∀ w', (Ext W0) w' → w'.cell? ⟨w.heap.size, 3, none⟩ = some (.int .i64 m.s) := fun w' h => h.cellOf (by rw [hW0]; exact (((Ext.refl _).alloc _).alloc _).cellOf (boxed 3 rfl (by simp)))
  have e04 : ∀ w', (Ext W0) w' → w'.cell? ⟨w.heap.size, 4, none⟩ = some (.int .i64 m.z) := fun w' h => h.cellOf (by rw [hW0]; exact (((Ext.refl _).alloc _).alloc _).cellOf (boxed 4 rfl (by simp)))
  have e10 : ∀ w', (Ext W0) w' → w'.cell? ⟨w.heap.size + 1, 0, none⟩ = some (.slice a0 fs.length ca) := fun w' h => h.cellOf (by rw [hW0]; exact ((Ext.refl _).alloc _).cellOf (boxed 0 rfl (by simp)))
  have e20 : ∀ w', (Ext W0) w' → w'.cell? ⟨w.heap.size + 1 + 1, 0, none⟩ = some (.slice b0 gs.length cb) := fun w' h => h.cellOf (by rw [hW0]; exact boxed 0 rfl (by simp))
  have HF := Lib.hid (hf.ext hX)
  have HG := Lib.hid (hg.ext hX)
  clear hf hg hv hu hm
  generalize r2T m fs gs = RT at *
  generalize r2B m fs gs = RB at *
  have hr := Ext.refl W0
  go_enter Tryz.func51, Tryz.ntmps51
  go_wp2_with fail
  rw [← hW0]
  clear hW0
  refine (KA.out _ HF.out).mono ?_
  rintro e w1 ⟨rfl, hz⟩
  replace hz : Ext W0 w1 := hz
  have g00 := e00 w1 hz; have g01 := e01 w1 hz; have g02 := e02 w1 hz; have g03 := e03 w1 hz; have g04 := e04 w1 hz; have g20 := e20 w1 hz
  clear hr
  go_wp2_with fail
  refine (KB.out _ (HG.out.ext hz)).mono ?_
  rintro e w2 ⟨rfl, hy⟩
  replace hz := Lib.hid (hz.trans hy)
  clear hy g00 g01 g02 g03 g04 g20 e00 e01 e02 e03 e04 e10 e20
  cases h2 : ftB m gs
  · have H := Lib.hid (HL.out h2)
    generalize ftT m fs = T at *
    generalize ftB m fs = B at *
    go_wp2
    go_ret2
    exact ⟨ret_ib2 H.out.2 H.out.1, hX.trans hz.out⟩
  cases h1 : ftB m fs
  · have H := Lib.hid (HR.out h1 h2)
    generalize ftT m gs = T at *
    go_wp2
    go_ret2
    exact ⟨ret_ib2 H.out.2 H.out.1, hX.trans hz.out⟩
  have H0 := HB.out h1 h2
  generalize ftT m fs = T at *
  generalize ftT m gs = U at *
  by_cases h3 : T ≤ U
  · rw [if_pos h3] at H0
    have H := Lib.hid H0
    clear H0
    have hmin : min T U = T := by omega
    go_wp2
    go_ret2
    exact ⟨ret_ib2 H.out.2 H.out.1, hX.trans hz.out⟩
  · rw [if_neg h3] at H0
    have H := Lib.hid H0
    clear H0
    have hmin : min T U = U := by omega
    go_wp2
    go_ret2
    exact ⟨ret_ib2 H.out.2 H.out.1, hX.trans hz.out⟩
set_option maxRecDepth 100000 in
set_option maxHeartbeats 4000000 in
theorem time_spec (m : M5) (a0 b0 : Option Addr) (ca cb : Nat) (fs gs : List F3) (w : World) (hf : Fxs w a0 fs) (hg : Fxs w b0 gs) (hv : trB fs = true) (hu : trB gs = true) (hm : mkB m = true) :
    Calls Tryz.prog 52 #[MV m, Tr (.slice a0 fs.length ca), Tr (.slice b0 gs.length cb)] w fun e w' => e = .returned (.int .i64 (r2S m fs gs)) ∧ Ext w w' := by
  have KA := Lib.hid (fun w' h => comes_spec m a0 ca fs w' h hv hm)
  have KB := Lib.hid (fun w' h => comes_spec m b0 cb gs w' h hu hm)
  have TA := ft_time (m := m) hv
  have TB := ft_time (m := m) hu
  have key : (csT m fs < 0 ∧ r2S m fs gs = csT m gs) ∨ (¬ csT m fs < 0 ∧ csT m gs < 0 ∧ r2S m fs gs = csT m fs) ∨ (¬ csT m fs < 0 ∧ ¬ csT m gs < 0 ∧ csT m gs < csT m fs ∧ r2S m fs gs = csT m gs) ∨ (¬ csT m fs < 0 ∧ ¬ csT m gs < 0 ∧ ¬ csT m gs < csT m fs ∧ r2S m fs gs = csT m fs) := by
    cases h1 : ftB m fs <;> cases h2 : ftB m gs
    · refine .inl ⟨by rw [cs_neg h1]; decide, ?_⟩
      rw [cs_neg h2, r2_neg (by unfold r2B; rw [h1, h2]; rfl)]
    · refine .inl ⟨by rw [cs_neg h1]; decide, ?_⟩
      rw [cs_pos h2, r2_pos (r2_right h1 h2).1, (r2_right h1 h2).2]
    · refine .inr (.inl ⟨by rw [cs_pos h1]; omega, by rw [cs_neg h2]; decide, ?_⟩)
      rw [cs_pos h1, r2_pos ((r2_left h2).1.trans h1), (r2_left h2).2]
    · rw [cs_pos h1, cs_pos h2, r2_pos (r2_both h1 h2).1, (r2_both h1 h2).2]
      by_cases h3 : ftT m gs < ftT m fs
      · exact .inr (.inr (.inl ⟨by omega, by omega, h3, if_neg (by omega)⟩))
      · exact .inr (.inr (.inr ⟨by omega, by omega, h3, if_pos (by omega)⟩))
  generalize r2S m fs gs = R at *
  obtain ⟨W0, hW0⟩ : ∃ W0, W0 = ((w.alloc (.cells #[.string m.n, .int .i64 m.x, .int .i64 m.y, .int .i64 m.s, .int .i64 m.z] 93)).alloc (.cells #[.slice a0 fs.length ca] 41)).alloc (.cells #[.slice b0 gs.length cb] 41) := ⟨_, rfl⟩
  have hX : Ext w W0 := hW0 ▸ ((((Ext.refl w).alloc _).alloc _).alloc _)
  have hs0 : W0.heap.size = w.heap.size + 1 + 1 + 1 := by rw [hW0]; simp
  have e00 : ∀ w', (Ext W0) w' → w'.cell? ⟨w.heap.size, 0, none⟩ = some (.string m.n) := fun w' h => h.cellOf (by rw [hW0]; exact (((Ext.refl _).alloc _).alloc _).cellOf (boxed 0 rfl (by simp)))
  have e01 : ∀ w', (Ext W0) w' → w'.cell? ⟨w.heap.size, 1, none⟩ = some (.int .i64 m.x) := fun w' h => h.cellOf (by rw [hW0]; exact (((Ext.refl _).alloc _).alloc _).cellOf (boxed 1 rfl (by simp)))
  have e02 : ∀ w', (Ext W0) w' → w'.cell? ⟨w.heap.size, 2, none⟩ = some (.int .i64 m.y) := fun w' h => h.cellOf (by rw [hW0]; exact (((Ext.refl _).alloc _).alloc _).cellOf (boxed 2 rfl (by simp)))
  have e03 : ∀ w', (Ext W0) w' → w'.cell? ⟨w.heap.size, 3, none⟩ = some (.int .i64 m.s) := fun w' h => h.cellOf (by rw [hW0]; exact (((Ext.refl _).alloc _).alloc _).cellOf (boxed 3 rfl (by simp)))
  have e04 : ∀ w', (Ext W0) w' → w'.cell? ⟨w.heap.size, 4, none⟩ = some (.int .i64 m.z) := fun w' h => h.cellOf (by rw [hW0]; exact (((Ext.refl _).alloc _).alloc _).cellOf (boxed 4 rfl (by simp)))
  have e10 : ∀ w', (Ext W0) w' → w'.cell? ⟨w.heap.size + 1, 0, none⟩ = some (.slice a0 fs.length ca) := fun w' h => h.cellOf (by rw [hW0]; exact ((Ext.refl _).alloc _).cellOf (boxed 0 rfl (by simp)))
  have e20 : ∀ w', (Ext W0) w' → w'.cell? ⟨w.heap.size + 1 + 1, 0, none⟩ = some (.slice b0 gs.length cb) := fun w' h => h.cellOf (by rw [hW0]; exact boxed 0 rfl (by simp))
  have HF := Lib.hid (hf.ext hX)
  have HG := Lib.hid (hg.ext hX)
  clear hf hg hv hu hm TA TB
  generalize csT m fs = T at *
  generalize csT m gs = U at *
  have hr := Ext.refl W0
  go_enter Tryz.func52, Tryz.ntmps52
  go_wp2_with fail
  rw [← hW0]
  clear hW0
  rcases key with ⟨h1, rfl⟩ | ⟨h1, h2, rfl⟩ | ⟨h1, h2, h3, rfl⟩ | ⟨h1, h2, h3, rfl⟩
  all_goals
    refine wp_region_held_drew (S := (fun w' => Ext W0 w')) (by kernel_rfl) (by (try dsimp only); first | go_keep | exact (Ext.refl _).drew | exact Res.new2.drew | exact Res.new4.drew | exact ResB.drew (by assumption) | exact ResC.drew (by assumption) | assumption | exact Ext.drew (by assumption) | exact Res.drew (by assumption)) (fun hHeld => ?_)
    refine Ord.K 0 9 ?_
    refine Ord.K 1 10 ?_
    refine Ord.K 3 12 ?_
    refine Ord.K 4 13 ?_
    (refine wpAnyH_ready (rs := [2]) (by kernel_rfl) (by simp) ?_; refine AllReadyH.cons rfl (fun K hK => ?_) AllReadyH.nil; go_simp; (first | (go_at_call 65; with_reducible refine (KA.out _ (HF.out.ext (by first | assumption | exact (Ext.refl _).drew))).mono ?_; rintro e w4 ⟨rfl, hy⟩) | (go_at_call 65; with_reducible refine (KB.out _ (HG.out.ext (by first | assumption | exact (Ext.refl _).drew))).mono ?_; rintro e w4 ⟨rfl, hy⟩)); go_wp2_with fail; (refine hK.out _ _ (by first | assumption | exact Ext.trans (by assumption) hy | exact Res.ext (by assumption) hy | exact ResB.ext (by assumption) hy | exact ResC.ext (by assumption) hy | (go_split_ands; (repeat' apply And.intro) <;> exact Ext.cellOf hy (by assumption))) (fun hHeld => ?_)); clear hK K; (try simp only [Act.put, Ord.a, Ord.b, Ord.c]))
    (refine wpAnyH_ready (rs := [5]) (by kernel_rfl) (by simp) ?_; refine AllReadyH.cons rfl (fun K hK => ?_) AllReadyH.nil; go_simp; (first | (go_at_call 65; with_reducible refine (KA.out _ (HF.out.ext (by first | assumption | exact (Ext.refl _).drew))).mono ?_; rintro e w4 ⟨rfl, hy⟩) | (go_at_call 65; with_reducible refine (KB.out _ (HG.out.ext (by first | assumption | exact (Ext.refl _).drew))).mono ?_; rintro e w4 ⟨rfl, hy⟩)); go_wp2_with fail; (refine hK.out _ _ (by first | assumption | exact Ext.trans (by assumption) hy | exact Res.ext (by assumption) hy | exact ResB.ext (by assumption) hy | exact ResC.ext (by assumption) hy | (go_split_ands; (repeat' apply And.intro) <;> exact Ext.cellOf hy (by assumption))) (fun hHeld => ?_)); clear hK K; (try simp only [Act.put, Ord.a, Ord.b, Ord.c]))
    refine Ord.K 6 7 ?_
    refine Ord.K 7 8 ?_
    refine wpAnyH_done (by kernel_rfl) ?_ _
    have X3 := Lib.hid (hX.trans hHeld)
    try have h2' : 0 ≤ U := by omega
    go_wp2
    go_ret
    exact ⟨rfl, X3.out⟩
end Go.Proofs.YtcangdcakgcpaaaGreat.Crs
namespace Go.Proofs.YtcangdcakgcpaaaGreat.Crs
open Go.ChangeShapes Go.WideShapes Go.ChangeAt Go.RowKit Go.PlainAid
open Go.Proofs.YtcangdcakgcpaaaGreat.Num Go.Proofs.YtcangdcakgcpaaaGreat.Kit Go.Proofs.YtcangdcakgcpaaaGreat.Pts Go.Proofs.YtcangdcakgcpaaaGreat.Seg Go.Proofs.YtcangdcakgcpaaaGreat.Div Go.Proofs.YtcangdcakgcpaaaGreat.Root Go.Proofs.YtcangdcakgcpaaaGreat.Rt Go.Proofs.YtcangdcakgcpaaaGreat.Gcd
open Go.Proofs.YtcangdcakgcpaaaGreat.Trk (F3 Fxs Tr trB fx)
set_option linter.unusedVariables false
set_option linter.unusedSimpArgs false
theorem Tks.two {w : World} {b : Nat} {t u : T1} (h : w.cell? ⟨b, 0, none⟩ = some (TV t)) (k : w.cell? ⟨b, 1, none⟩ = some (TV u)) (hf : Fxs w t.a t.fs) (hg : Fxs w u.a u.fs) : Tks w (some ⟨b, 0, none⟩) [t, u] := by
  refine ⟨by unfold maxLen; simp, fun i hi => ?_, .inr ⟨b, 0, rfl, fun i hi => ?_⟩⟩
  · obtain rfl | rfl : i = 0 ∨ i = 1 := by simp at hi; omega
    · exact hf
    · exact hg
  · obtain rfl | rfl : i = 0 ∨ i = 1 := by simp at hi; omega
    · exact h
    · exact k
theorem tsB_two (t u : T1) : tsB [t, u] = (trB t.fs && trB u.fs) := by
  simp [tsB, List.range_succ, tkB, tk]
def r3K (l k : L4) (ms : List M5) (fs gs : List F3) (n : Int) : Int := if mfC l k ms (trB fs && trB gs) n = 0 then (if r2B (mk ms n.toNat) fs gs = true then 0 else 4) else mfC l k ms (trB fs && trB gs) n
def r3V (l k : L4) (ms : List M5) (fs gs : List F3) (n : Int) : Int := if r3K l k ms fs gs n = 0 then r2T (mk ms n.toNat) fs gs else 0
theorem r3_bad {l k : L4} {ms : List M5} {fs gs : List F3} {n : Int} (g : mfC l k ms (trB fs && trB gs) n ≠ 0) : r3K l k ms fs gs n = mfC l k ms (trB fs && trB gs) n ∧ r3V l k ms fs gs n = 0 := by
  have e : r3K l k ms fs gs n = mfC l k ms (trB fs && trB gs) n := if_neg g
  exact ⟨e, by unfold r3V; rw [if_neg (by rw [e]; exact g)]⟩
theorem r3_none {l k : L4} {ms : List M5} {fs gs : List F3} {i : Nat} (g : mfC l k ms (trB fs && trB gs) i = 0) (h : r2B (mk ms i) fs gs = false) : r3K l k ms fs gs i = 4 ∧ r3V l k ms fs gs i = 0 := by
  have e : r3K l k ms fs gs i = 4 := (if_pos g).trans (if_neg (by simp [h]))
  exact ⟨e, by unfold r3V; rw [if_neg (by rw [e]; decide)]⟩
theorem r3_yes {l k : L4} {ms : List M5} {fs gs : List F3} {i : Nat} (g : mfC l k ms (trB fs && trB gs) i = 0) (h : r2B (mk ms i) fs gs = true) : r3K l k ms fs gs i = 0 ∧ r3V l k ms fs gs i = r2T (mk ms i) fs gs := by
  have e : r3K l k ms fs gs i = 0 := (if_pos g).trans (if_pos (by simpa using h))
  exact ⟨e, by unfold r3V; rw [if_pos e]; simp⟩
theorem mf_one {l k : L4} {ms : List M5} {ok : Bool} {n : Int} (h : mfC l k ms ok n = 1) : mfC l k ms ok n ≠ 0 := by rw [h]; decide
set_option maxRecDepth 100000 in
set_option maxHeartbeats 8000000 in
theorem roomTime_impl (l k : L4) (a : Option Addr) (cap : Nat) (ms : List M5) (n : Int) (at_ : Option Addr) (ct : Nat) (fs : List F3) (au : Option Addr) (cu : Nat) (gs : List F3) (w : World) (hf : Mks w a ms) (ht : Fxs w at_ fs) (hg : Fxs w au gs) :
    Calls Tryz.prog 18 #[CV l k (.slice a ms.length cap), .int .i64 n, Tr (.slice at_ fs.length ct), Tr (.slice au gs.length cu)] w fun e w' => e = .returned (.tuple #[.int .i64 (r3V l k ms fs gs n), .int .i64 (r3K l k ms fs gs n)]) ∧ Ext w w' := by
  obtain ⟨W0, hW0⟩ : ∃ W0, W0 = ((w.alloc (.cells (cellsC l k (.slice a ms.length cap)).toArray 30)).alloc (.cells #[.slice at_ fs.length ct] 41)).alloc (.cells #[.slice au gs.length cu] 41) := ⟨_, rfl⟩
  have HW := Lib.hid (show Ext w W0 from hW0 ▸ (((Ext.refl w).alloc _).alloc _).alloc _)
  have BB := Lib.hid (show Box W0 w.heap.size (cellsC l k (.slice a ms.length cap)) from hW0 ▸ ((Box.new rfl).alloc _).alloc _)
  have CT := Lib.hid (show W0.cell? ⟨w.heap.size + 1, 0, none⟩ = some (.slice at_ fs.length ct) from hW0 ▸ ((Ext.refl _).alloc _).cellOf (boxed 0 rfl (by simp)))
  have CU := Lib.hid (show W0.cell? ⟨w.heap.size + 1 + 1, 0, none⟩ = some (.slice au gs.length cu) from hW0 ▸ boxed 0 rfl (by simp))
  have HF := Lib.hid (hf.ext HW.out)
  have HT := Lib.hid (ht.ext HW.out)
  have HG := Lib.hid (hg.ext HW.out)
  have zW : W0.heap.size = w.heap.size + 1 + 1 + 1 := by rw [hW0]; simp
  have hm := hf.1.1
  unfold maxLen at hm
  clear hf ht hg
  obtain ⟨W1, hW1⟩ : ∃ W1, W1 = W0.alloc (.cells #[.slice at_ fs.length ct, .slice au gs.length cu] 41) := ⟨_, rfl⟩
  have h1 : Ext W0 W1 := hW1 ▸ (Ext.refl W0).alloc _
  have TK := Lib.hid (Tks.two (w := W1) (b := w.heap.size + 1 + 1 + 1) (t := ⟨at_, ct, fs⟩) (u := ⟨au, cu, gs⟩) (hW1 ▸ boxed 0 rfl zW) (hW1 ▸ boxed 1 rfl zW) (HT.out.ext h1) (HG.out.ext h1))
  have KL := Lib.hid (markFor_any l k a cap ms n (some ⟨w.heap.size + 1 + 1 + 1, 0, none⟩) 2 [⟨at_, ct, fs⟩, ⟨au, cu, gs⟩] W1 (HF.out.ext h1) TK.out)
  rw [tsB_two] at KL
  have X1 := Lib.hid h1
  clear h1 zW hm
  by_cases g : mfC l k ms (trB fs && trB gs) n = 0
  rotate_left
  · have HY := Lib.hid (r3_bad g)
    have g1 : (mfC l k ms (trB fs && trB gs) n != 0) = true := by simp [g]
    have g2 : (mfC l k ms (trB fs && trB gs) n == 0) = false := beq_eq_false_iff_ne.2 g
    obtain ⟨C, hC⟩ : ∃ C, C = mfC l k ms (trB fs && trB gs) n := ⟨_, rfl⟩
    have HC := Lib.hid hC
    rw [← hC] at KL g1 g2
    clear g hC
    go_enter Tryz.func18, Tryz.ntmps18
    go_wp2_with fail
    rw [← hW0, ← hW1]
    clear hW0 hW1
    refine KL.out.mono ?_
    rintro e w1 ⟨rfl, hx⟩
    go_wp2
    go_ret2
    exact ⟨ret_int2 HY.out.2 (HY.out.1.trans HC.out.symm), HW.out.trans (X1.out.trans (hx.alloc _))⟩
  obtain ⟨hq, hv0, hn⟩ := mf_zero g
  rw [Bool.and_eq_true] at hv0
  obtain ⟨hv, hu⟩ := hv0
  obtain ⟨i, rfl⟩ : ∃ i : Nat, n = i := ⟨n.toNat, by omega⟩
  have hi : i < ms.length := by omega
  have hm := cr_mk hq hi
  have HN := Lib.hid (fun h => r3_none g h)
  have HY := Lib.hid (fun h => r3_yes g h)
  rw [mf_mk g, g] at KL
  have KT := Lib.hid (fun w' h h' => roomTime_any (mk ms i) at_ au ct cu fs gs w' h h' hv hu hm)
  clear g hq hv hu hn hm
  obtain ⟨m, hmm⟩ : ∃ m, m = mk ms i := ⟨_, rfl⟩
  rw [← hmm] at KL HY HN KT
  clear hmm
  go_enter Tryz.func18, Tryz.ntmps18
  go_wp2_with fail
  rw [← hW0, ← hW1]
  clear hW0 hW1
  refine KL.out.mono ?_
  rintro e w1 ⟨rfl, hx⟩
  have X2 := Lib.hid (X1.out.trans hx)
  have c9 : ∀ A, (w1.alloc A).cell? ⟨w.heap.size + 1, 0, none⟩ = some (.slice at_ fs.length ct) := fun A => ((Ext.refl w1).alloc A).cellOf (X2.out.cellOf CT.out)
  have c8 : ∀ A, (w1.alloc A).cell? ⟨w.heap.size + 1 + 1, 0, none⟩ = some (.slice au gs.length cu) := fun A => ((Ext.refl w1).alloc A).cellOf (X2.out.cellOf CU.out)
  go_wp2_with fail
  refine (KT.out _ (HT.out.ext (X2.out.trans ((Ext.refl w1).alloc _))) (HG.out.ext (X2.out.trans ((Ext.refl w1).alloc _)))).mono ?_
  rintro e w2 ⟨rfl, hy⟩
  have X3 := Lib.hid (HW.out.trans (X2.out.trans (((Ext.refl w1).alloc _).trans hy)))
  clear hy hx c8 c9
  cases hB : r2B m fs gs
  · have H := Lib.hid (HN.out hB)
    go_wp2
    go_ret2
    exact ⟨ret_int2 H.out.2 H.out.1, X3.out⟩
  · have H := Lib.hid (HY.out hB)
    generalize r2T m fs gs = T at *
    go_wp2
    go_ret2
    exact ⟨ret_int2 H.out.2 H.out.1, X3.out⟩
set_option maxRecDepth 100000 in
set_option maxHeartbeats 8000000 in
theorem roomTime_spec (l k : L4) (a : Option Addr) (cap : Nat) (ms : List M5) (n : Int) (at_ : Option Addr) (ct : Nat) (fs : List F3) (au : Option Addr) (cu : Nat) (gs : List F3) (w : World) (hf : Mks w a ms) (ht : Fxs w at_ fs) (hg : Fxs w au gs) :
    Calls Tryz.prog 19 #[CV l k (.slice a ms.length cap), .int .i64 n, Tr (.slice at_ fs.length ct), Tr (.slice au gs.length cu)] w fun e w' => e = .returned (.tuple #[.int .i64 (r3V l k ms fs gs n), .int .i64 (r3K l k ms fs gs n)]) ∧ Ext w w' := by
  obtain ⟨W0, hW0⟩ : ∃ W0, W0 = ((w.alloc (.cells (cellsC l k (.slice a ms.length cap)).toArray 30)).alloc (.cells #[.slice at_ fs.length ct] 41)).alloc (.cells #[.slice au gs.length cu] 41) := ⟨_, rfl⟩
  have HW := Lib.hid (show Ext w W0 from hW0 ▸ (((Ext.refl w).alloc _).alloc _).alloc _)
  have BB := Lib.hid (show Box W0 w.heap.size (cellsC l k (.slice a ms.length cap)) from hW0 ▸ ((Box.new rfl).alloc _).alloc _)
  have CT := Lib.hid (show W0.cell? ⟨w.heap.size + 1, 0, none⟩ = some (.slice at_ fs.length ct) from hW0 ▸ ((Ext.refl _).alloc _).cellOf (boxed 0 rfl (by simp)))
  have CU := Lib.hid (show W0.cell? ⟨w.heap.size + 1 + 1, 0, none⟩ = some (.slice au gs.length cu) from hW0 ▸ boxed 0 rfl (by simp))
  have HF := Lib.hid (hf.ext HW.out)
  have HT := Lib.hid (ht.ext HW.out)
  have HG := Lib.hid (hg.ext HW.out)
  have zW : W0.heap.size = w.heap.size + 1 + 1 + 1 := by rw [hW0]; simp
  have hm := hf.1.1
  unfold maxLen at hm
  clear hf ht hg
  go_enter Tryz.func19, Tryz.ntmps19
  go_wp2_with fail
  rw [← hW0]
  clear hW0 zW
  refine (isCourse_spec _ _ _ _ _ _ HF.out).mono ?_
  rintro e w1 ⟨rfl, hx⟩
  cases hq : crB l k ms
  · have HY0 := r3_bad (gs := gs) (fs := fs) (n := n) (mf_one (mf_bad (l := l) (k := k) (ms := ms) (ok := trB fs && trB gs) (n := n) (.inl hq)))
    rw [mf_bad (l := l) (k := k) (ms := ms) (ok := trB fs && trB gs) (n := n) (.inl hq)] at HY0
    have HY := Lib.hid HY0
    clear HY0
    go_wp2
    go_ret2
    exact ⟨ret_int2 HY.out.2 HY.out.1, HW.out.trans hx⟩
  have c0 := hx.cellOf CT.out
  go_wp2_with fail
  refine (Trk.isTrack_spec _ _ _ _ (HT.out.ext hx)).mono ?_
  rintro e w2 ⟨rfl, hy⟩
  replace hx := hx.trans hy
  clear hy c0
  cases hv : trB fs
  · have HY0 := r3_bad (gs := gs) (fs := fs) (n := n) (mf_one (mf_bad (l := l) (k := k) (ms := ms) (ok := trB fs && trB gs) (n := n) (.inr (by rw [hv]; rfl))))
    rw [mf_bad (l := l) (k := k) (ms := ms) (ok := trB fs && trB gs) (n := n) (.inr (by rw [hv]; rfl))] at HY0
    have HY := Lib.hid HY0
    clear HY0
    go_wp2
    go_ret2
    exact ⟨ret_int2 HY.out.2 HY.out.1, HW.out.trans hx⟩
  have c0 := hx.cellOf CU.out
  go_wp2_with fail
  refine (Trk.isTrack_spec _ _ _ _ (HG.out.ext hx)).mono ?_
  rintro e w3 ⟨rfl, hy⟩
  replace hx := hx.trans hy
  clear hy c0
  cases hu : trB gs
  · have HY0 := r3_bad (gs := gs) (fs := fs) (n := n) (mf_one (mf_bad (l := l) (k := k) (ms := ms) (ok := trB fs && trB gs) (n := n) (.inr (by rw [hv, hu]; rfl))))
    rw [mf_bad (l := l) (k := k) (ms := ms) (ok := trB fs && trB gs) (n := n) (.inr (by rw [hv, hu]; rfl))] at HY0
    have HY := Lib.hid HY0
    clear HY0
    go_wp2
    go_ret2
    exact ⟨ret_int2 HY.out.2 HY.out.1, HW.out.trans hx⟩
  have h1 : 1 ≤ ms.length := by
    unfold crB at hq; simp only [Bool.and_eq_true, decide_eq_true_eq] at hq; exact hq.1
  have T1 : IntKind.i64.wrap ((ms.length : Int) - 1) = (ms.length : Int) - 1 := IntWalk.i64_in _ (by omega)
  by_cases h0 : 0 ≤ n ∧ n < ms.length
  rotate_left
  · have hin := inB_no (n := n) (lo := 0) (hi := (ms.length : Int) - 1) (by omega)
    have hM : mfC l k ms (trB fs && trB gs) n = 4 := mf_out hq (by rw [hv, hu]; rfl) h0
    have HY0 := r3_bad (gs := gs) (fs := fs) (n := n) (l := l) (k := k) (ms := ms) (by rw [hM]; decide)
    rw [hM] at HY0
    have HY := Lib.hid HY0
    clear HY0 hM
    obtain ⟨⟨p0, p1, p2, p3, p4, p5, p6, p7, p8⟩, _⟩ := Box.nine (BB.out.ext hx)
    have f8 : ∀ w', Ext w3 w' → w'.cell? ⟨w.heap.size, 8, none⟩ = some (.slice a ms.length cap) := fun w' h => h.cellOf p8
    have hr := Ext.refl w3
    clear p0 p1 p2 p3 p4 p5 p6 p7 p8
    go_upto_region 3 with fail
    refine wp_region_held_drew (S := (fun w' => Ext w3 w')) (by kernel_rfl) (by (try dsimp only); first | go_keep | exact (Ext.refl _).drew | exact Res.new2.drew | exact Res.new4.drew | exact ResB.drew (by assumption) | exact ResC.drew (by assumption) | assumption | exact Ext.drew (by assumption) | exact Res.drew (by assumption)) (fun hHeld => ?_)
    refine Ord.K 0 23 ?_
    refine Ord.K 1 24 ?_
    refine Ord.K 2 25 ?_
    refine Ord.K 3 26 ?_
    refine Ord.K 4 27 ?_
    (refine wpAnyH_ready (rs := [5]) (by kernel_rfl) (by simp) ?_; refine AllReadyH.cons rfl (fun K hK => ?_) AllReadyH.nil; go_simp; ((go_at_call 46; refine (in_any _ _ _ _).mono ?_; rw [hin]; rintro e w4 ⟨rfl, rfl⟩)); go_wp2_with fail; (refine hK.out _ _ (by first | assumption | exact Ext.trans (by assumption) hy | exact Res.ext (by assumption) hy | exact ResB.ext (by assumption) hy | exact ResC.ext (by assumption) hy | (go_split_ands; (repeat' apply And.intro) <;> exact Ext.cellOf hy (by assumption))) (fun hHeld => ?_)); clear hK K; (try simp only [Act.put, Ord.a, Ord.b, Ord.c]))
    refine Ord.K 6 29 ?_
    refine Ord.K 7 30 ?_
    (first | (refine Ord.s 8 31 ?_ ?_; rfl; (try simp only [Act.put, Ord.a, Ord.b, Ord.c])) | refine Ord.K 8 31 ?_)
    (first | (refine Ord.s 9 32 ?_ ?_; rfl; (try simp only [Act.put, Ord.a, Ord.b, Ord.c])) | refine Ord.K 9 32 ?_)
    (first | (refine Ord.s 10 33 ?_ ?_; rfl; (try simp only [Act.put, Ord.a, Ord.b, Ord.c])) | refine Ord.K 10 33 ?_)
    (first | (refine Ord.s 11 34 ?_ ?_; rfl; (try simp only [Act.put, Ord.a, Ord.b, Ord.c])) | refine Ord.K 11 34 ?_)
    (first | (refine Ord.s 12 35 ?_ ?_; rfl; (try simp only [Act.put, Ord.a, Ord.b, Ord.c])) | refine Ord.K 12 35 ?_)
    (first | (refine Ord.s 13 36 ?_ ?_; rfl; (try simp only [Act.put, Ord.a, Ord.b, Ord.c])) | refine Ord.K 13 36 ?_)
    (first | (refine Ord.s 14 37 ?_ ?_; rfl; (try simp only [Act.put, Ord.a, Ord.b, Ord.c])) | refine Ord.K 14 37 ?_)
    (first | (refine Ord.s 15 38 ?_ ?_; rfl; (try simp only [Act.put, Ord.a, Ord.b, Ord.c])) | (refine wpAnyH_ready (rs := [15]) (by kernel_rfl) (by simp) ?_; refine AllReadyH.cons rfl (fun K hK => ?_) AllReadyH.nil; go_simp; ((go_at_call 46; refine (in_any _ _ _ _).mono ?_; rw [hin]; rintro e w4 ⟨rfl, rfl⟩)); go_wp2_with fail; (refine hK.out _ _ (by first | assumption | exact Ext.trans (by assumption) hy | exact Res.ext (by assumption) hy | exact ResB.ext (by assumption) hy | exact ResC.ext (by assumption) hy | (go_split_ands; (repeat' apply And.intro) <;> exact Ext.cellOf hy (by assumption))) (fun hHeld => ?_)); clear hK K; (try simp only [Act.put, Ord.a, Ord.b, Ord.c])))
    (first | (refine Ord.s 16 39 ?_ ?_; rfl; (try simp only [Act.put, Ord.a, Ord.b, Ord.c])) | refine Ord.K 16 39 ?_)
    refine Ord.K 17 40 ?_
    refine wpAnyH_done (by kernel_rfl) ?_ _
    have hz := hx.trans hHeld
    clear f8 hr hHeld
    go_wp2
    go_ret2
    exact ⟨ret_int2 HY.out.2 HY.out.1, HW.out.trans hz⟩
  have hin := inB_yes (n := n) (lo := 0) (hi := (ms.length : Int) - 1) h0.1 (by omega)
  obtain ⟨i, rfl⟩ : ∃ i : Nat, n = i := ⟨n.toNat, by omega⟩
  have hi : i < ms.length := by omega
  have hmk := cr_mk hq hi
  have g : mfC l k ms (trB fs && trB gs) i = 0 := mf_yes hq (by rw [hv, hu]; rfl) h0
  have HN := Lib.hid (fun h => r3_none g h)
  have HY := Lib.hid (fun h => r3_yes g h)
  have KT := Lib.hid (fun w' h h' => time_spec (mk ms i) at_ au ct cu fs gs w' h h' hv hu hmk)
  have HP := Lib.hid (r2_time (m := mk ms i) hv hu)
  obtain ⟨b, off, rfl, hb⟩ := HF.out.row (by omega)
  obtain ⟨k0, k1, k2, k3, k4⟩ := hb i hi
  clear g hq hv hu hmk hb h0
  obtain ⟨m, hmm⟩ : ∃ m, m = mk ms i := ⟨_, rfl⟩
  rw [← hmm] at HY HN KT HP k0 k1 k2 k3 k4
  clear hmm
  have r0 : (0 : Int) ≤ (i : Int) := by omega
  have r1 : (i : Int) < (ms.length : Int) := by omega
  obtain ⟨⟨p0, p1, p2, p3, p4, p5, p6, p7, p8⟩, _⟩ := Box.nine (BB.out.ext hx)
  have X2 := Lib.hid hx
  have f9 : ∀ w', Ext w3 w' → w'.cell? ⟨w.heap.size + 1, 0, none⟩ = some (.slice at_ fs.length ct) := fun w' h => h.cellOf (X2.out.cellOf CT.out)
  have f7 : ∀ w', Ext w3 w' → w'.cell? ⟨w.heap.size + 1 + 1, 0, none⟩ = some (.slice au gs.length cu) := fun w' h => h.cellOf (X2.out.cellOf CU.out)
  have f8 : ∀ w', Ext w3 w' → w'.cell? ⟨w.heap.size, 8, none⟩ = some (.slice (some ⟨b, off, none⟩) ms.length cap) := fun w' h => h.cellOf p8
  have g0 : ∀ w', Ext w3 w' → w'.cell? ⟨b, off + i * 5, none⟩ = some (.string m.n) := fun w' h => h.cellOf (X2.out.cellOf k0)
  have g1 : ∀ w', Ext w3 w' → w'.cell? ⟨b, off + i * 5 + 1, none⟩ = some (.int .i64 m.x) := fun w' h => h.cellOf (X2.out.cellOf k1)
  have g2 : ∀ w', Ext w3 w' → w'.cell? ⟨b, off + i * 5 + 2, none⟩ = some (.int .i64 m.y) := fun w' h => h.cellOf (X2.out.cellOf k2)
  have g3 : ∀ w', Ext w3 w' → w'.cell? ⟨b, off + i * 5 + 3, none⟩ = some (.int .i64 m.s) := fun w' h => h.cellOf (X2.out.cellOf k3)
  have g4 : ∀ w', Ext w3 w' → w'.cell? ⟨b, off + i * 5 + 4, none⟩ = some (.int .i64 m.z) := fun w' h => h.cellOf (X2.out.cellOf k4)
  have hr := Ext.refl w3
  clear p0 p1 p2 p3 p4 p5 p6 p7 p8 k0 k1 k2 k3 k4 hx
  go_upto_region 3 with fail
  refine wp_region_held_drew (S := (fun w' => Ext w3 w')) (by kernel_rfl) (by (try dsimp only); first | go_keep | exact (Ext.refl _).drew | exact Res.new2.drew | exact Res.new4.drew | exact ResB.drew (by assumption) | exact ResC.drew (by assumption) | assumption | exact Ext.drew (by assumption) | exact Res.drew (by assumption)) (fun hHeld => ?_)
  refine Ord.K 0 23 ?_
  refine Ord.K 1 24 ?_
  refine Ord.K 2 25 ?_
  refine Ord.K 3 26 ?_
  refine Ord.K 4 27 ?_
  (refine wpAnyH_ready (rs := [5]) (by kernel_rfl) (by simp) ?_; refine AllReadyH.cons rfl (fun K hK => ?_) AllReadyH.nil; go_simp; (first | (go_at_call 46; refine (in_any _ _ _ _).mono ?_; rw [hin]; rintro e w4 ⟨rfl, rfl⟩) | (go_at_call 52; refine (KT.out _ (HT.out.ext (X2.out.trans (by first | assumption | exact (Ext.refl _).drew))) (HG.out.ext (X2.out.trans (by first | assumption | exact (Ext.refl _).drew)))).mono ?_; rintro e w5 ⟨rfl, hy⟩)); go_wp2_with fail; (refine hK.out _ _ (by first | assumption | exact Ext.trans (by assumption) hy | exact Res.ext (by assumption) hy | exact ResB.ext (by assumption) hy | exact ResC.ext (by assumption) hy | (go_split_ands; (repeat' apply And.intro) <;> exact Ext.cellOf hy (by assumption))) (fun hHeld => ?_)); clear hK K; (try simp only [Act.put, Ord.a, Ord.b, Ord.c]))
  refine Ord.K 6 29 ?_
  refine Ord.K 7 30 ?_
  (first | (refine Ord.s 8 31 ?_ ?_; rfl; (try simp only [Act.put, Ord.a, Ord.b, Ord.c])) | refine Ord.K 8 31 ?_)
  (first | (refine Ord.s 9 32 ?_ ?_; rfl; (try simp only [Act.put, Ord.a, Ord.b, Ord.c])) | refine Ord.K 9 32 ?_)
  (first | (refine Ord.s 10 33 ?_ ?_; rfl; (try simp only [Act.put, Ord.a, Ord.b, Ord.c])) | refine Ord.K 10 33 ?_)
  (first | (refine Ord.s 11 34 ?_ ?_; rfl; (try simp only [Act.put, Ord.a, Ord.b, Ord.c])) | refine Ord.K 11 34 ?_)
  (first | (refine Ord.s 12 35 ?_ ?_; rfl; (try simp only [Act.put, Ord.a, Ord.b, Ord.c])) | refine Ord.K 12 35 ?_)
  (first | (refine Ord.s 13 36 ?_ ?_; rfl; (try simp only [Act.put, Ord.a, Ord.b, Ord.c])) | refine Ord.K 13 36 ?_)
  (first | (refine Ord.s 14 37 ?_ ?_; rfl; (try simp only [Act.put, Ord.a, Ord.b, Ord.c])) | refine Ord.K 14 37 ?_)
  (first | (refine Ord.s 15 38 ?_ ?_; rfl; (try simp only [Act.put, Ord.a, Ord.b, Ord.c])) | (refine wpAnyH_ready (rs := [15]) (by kernel_rfl) (by simp) ?_; refine AllReadyH.cons rfl (fun K hK => ?_) AllReadyH.nil; go_simp; (first | (go_at_call 46; refine (in_any _ _ _ _).mono ?_; rw [hin]; rintro e w4 ⟨rfl, rfl⟩) | (go_at_call 52; refine (KT.out _ (HT.out.ext (X2.out.trans (by first | assumption | exact (Ext.refl _).drew))) (HG.out.ext (X2.out.trans (by first | assumption | exact (Ext.refl _).drew)))).mono ?_; rintro e w5 ⟨rfl, hy⟩)); go_wp2_with fail; (refine hK.out _ _ (by first | assumption | exact Ext.trans (by assumption) hy | exact Res.ext (by assumption) hy | exact ResB.ext (by assumption) hy | exact ResC.ext (by assumption) hy | (go_split_ands; (repeat' apply And.intro) <;> exact Ext.cellOf hy (by assumption))) (fun hHeld => ?_)); clear hK K; (try simp only [Act.put, Ord.a, Ord.b, Ord.c])))
  (first | (refine Ord.s 16 39 ?_ ?_; rfl; (try simp only [Act.put, Ord.a, Ord.b, Ord.c])) | refine Ord.K 16 39 ?_)
  refine Ord.K 17 40 ?_
  refine wpAnyH_done (by kernel_rfl) ?_ _
  have X3 := Lib.hid (X2.out.trans hHeld)
  clear hy
  cases hB : r2B m fs gs
  · have H := Lib.hid (HN.out hB)
    rw [r2_neg hB]
    go_wp2
    go_ret2
    exact ⟨ret_int2 H.out.2 H.out.1, HW.out.trans X3.out⟩
  · have H := Lib.hid (HY.out hB)
    rw [r2_pos hB] at KT ⊢
    have h0 := HP.out
    generalize r2T m fs gs = T at *
    have h1 : ¬ T < 0 := by omega
    replace f9 : ∀ w', Ext w5 w' → w'.cell? ⟨w.heap.size + 1, 0, none⟩ = some (.slice at_ fs.length ct) := fun w' h => f9 w' (hHeld.trans h)
    replace f7 : ∀ w', Ext w5 w' → w'.cell? ⟨w.heap.size + 1 + 1, 0, none⟩ = some (.slice au gs.length cu) := fun w' h => f7 w' (hHeld.trans h)
    replace f8 : ∀ w', Ext w5 w' → w'.cell? ⟨w.heap.size, 8, none⟩ = some (.slice (some ⟨b, off, none⟩) ms.length cap) := fun w' h => f8 w' (hHeld.trans h)
    replace g0 : ∀ w', Ext w5 w' → w'.cell? ⟨b, off + i * 5, none⟩ = some (.string m.n) := fun w' h => g0 w' (hHeld.trans h)
    replace g1 : ∀ w', Ext w5 w' → w'.cell? ⟨b, off + i * 5 + 1, none⟩ = some (.int .i64 m.x) := fun w' h => g1 w' (hHeld.trans h)
    replace g2 : ∀ w', Ext w5 w' → w'.cell? ⟨b, off + i * 5 + 2, none⟩ = some (.int .i64 m.y) := fun w' h => g2 w' (hHeld.trans h)
    replace g3 : ∀ w', Ext w5 w' → w'.cell? ⟨b, off + i * 5 + 3, none⟩ = some (.int .i64 m.s) := fun w' h => g3 w' (hHeld.trans h)
    replace g4 : ∀ w', Ext w5 w' → w'.cell? ⟨b, off + i * 5 + 4, none⟩ = some (.int .i64 m.z) := fun w' h => g4 w' (hHeld.trans h)
    clear hr hHeld
    have hr := Ext.refl w5
    go_upto_region 5 with fail
    refine wp_region_held_drew (S := (fun w' => Ext w5 w')) (by kernel_rfl) (by (try dsimp only); first | go_keep | exact (Ext.refl _).drew | exact Res.new2.drew | exact Res.new4.drew | exact ResB.drew (by assumption) | exact ResC.drew (by assumption) | assumption | exact Ext.drew (by assumption) | exact Res.drew (by assumption)) (fun hHeld => ?_)
    refine Ord.K 0 41 ?_
    refine Ord.K 1 42 ?_
    refine Ord.K 2 43 ?_
    refine Ord.K 3 44 ?_
    refine Ord.K 4 45 ?_
    refine Ord.K 5 46 ?_
    refine Ord.K 6 47 ?_
    (refine wpAnyH_ready (rs := [7]) (by kernel_rfl) (by simp) ?_; refine AllReadyH.cons rfl (fun K hK => ?_) AllReadyH.nil; go_simp; ((go_at_call 52; refine (KT.out _ (HT.out.ext (X3.out.trans (by first | assumption | exact (Ext.refl _).drew))) (HG.out.ext (X3.out.trans (by first | assumption | exact (Ext.refl _).drew)))).mono ?_; rintro e w6 ⟨rfl, hy⟩)); go_wp2_with fail; (refine hK.out _ _ (by first | assumption | exact Ext.trans (by assumption) hy | exact Res.ext (by assumption) hy | exact ResB.ext (by assumption) hy | exact ResC.ext (by assumption) hy | (go_split_ands; (repeat' apply And.intro) <;> exact Ext.cellOf hy (by assumption))) (fun hHeld => ?_)); clear hK K; (try simp only [Act.put, Ord.a, Ord.b, Ord.c]))
    refine Ord.K 8 8 ?_
    refine Ord.K 9 9 ?_
    refine wpAnyH_done (by kernel_rfl) ?_ _
    go_wp2
    go_ret2
    exact ⟨ret_int2 H.out.2 H.out.1, HW.out.trans (X3.out.trans hHeld)⟩
end Go.Proofs.YtcangdcakgcpaaaGreat.Crs
