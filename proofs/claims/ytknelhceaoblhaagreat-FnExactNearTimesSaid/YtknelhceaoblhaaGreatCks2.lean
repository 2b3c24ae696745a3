import Derived.Test.YtknelhceaoblhaaGreatCks
import Derived.Test.YtknelhceaoblhaaGreatMPrs
import Derived.Deep.DeepCutAuto
namespace Go.Proofs.YtknelhceaoblhaaGreat.Cks
open Go.ChangeShapes Go.WideShapes Go.ChangeAt Go.RowKit Go.PlainAid
open Go.Proofs.YtknelhceaoblhaaGreat.Num Go.Proofs.YtknelhceaoblhaaGreat.Kit Go.Proofs.YtknelhceaoblhaaGreat.Pts Go.Proofs.YtknelhceaoblhaaGreat.Wch Go.Proofs.YtknelhceaoblhaaGreat.Iw Go.Proofs.YtknelhceaoblhaaGreat.Rwz Go.Proofs.YtknelhceaoblhaaGreat.Prs
open Go.Proofs.YtknelhceaoblhaaGreat.Trk (F3 Fx Fxs Tr fx trB FxV fieldT first_any last_any)
open Go.Proofs.YtknelhceaoblhaaGreat.Crs (T1 TV)
set_option linter.unusedVariables false
set_option linter.unusedSimpArgs false
def ckA (fs gs : List F3) : Int := max (fx fs 0).t (fx gs 0).t
def ckE (fs gs : List F3) : Int := min (fx fs (fs.length - 1)).t (fx gs (gs.length - 1)).t
def pcC (p : Int) (fs gs : List F3) : Int := swC (ckA fs gs) (ckE fs gs) p
def pcZ (p : Int) (fs gs : List F3) : List Int := swZ (ckA fs gs) (ckE fs gs) p
def ccB (l s d p : Int) (fs gs : List F3) : Bool := wtB l s d p && (trB fs && trB gs)
def ccC (l s d p : Int) (fs gs : List F3) : Int := if ccB l s d p fs gs = true then pcC p fs gs else 1
def ccZ (l s d p : Int) (fs gs : List F3) : List Int := if ccB l s d p fs gs = true then pcZ p fs gs else []
theorem cc_no {l s d p : Int} {fs gs : List F3} (h : ccB l s d p fs gs = false) : ccC l s d p fs gs = 1 ∧ ccZ l s d p fs gs = [] := by unfold ccC ccZ; rw [h]; exact ⟨rfl, rfl⟩
theorem cc_yes {l s d p : Int} {fs gs : List F3} (h : ccB l s d p fs gs = true) : ccC l s d p fs gs = pcC p fs gs ∧ ccZ l s d p fs gs = pcZ p fs gs := by unfold ccC ccZ; rw [if_pos h, if_pos h]; exact ⟨rfl, rfl⟩
theorem cc_len (l s d p : Int) (fs gs : List F3) : (ccZ l s d p fs gs).length ≤ 400 := by
  unfold ccZ
  split
  · exact sw_len _ _ _
  · simp
theorem cc_ok {l s d p : Int} {fs gs : List F3} (h : ccB l s d p fs gs = true) : wtB l s d p = true ∧ trB fs = true ∧ trB gs = true := by
  unfold ccB at h
  simp only [Bool.and_eq_true] at h
  exact h
theorem tr_fix {fs : List F3} (h : trB fs = true) : (2 ≤ fs.length ∧ fs.length ≤ 40) ∧ ∀ k, k < fs.length → 0 ≤ (fx fs k).t ∧ (fx fs k).t ≤ 1000000000 := by
  obtain ⟨h1, h2⟩ := Trk.trB_yes h
  refine ⟨h1, fun k hk => ?_⟩
  have := h2 k hk
  unfold Trk.okB Trk.fxB at this
  simp only [Bool.and_eq_true] at this
  exact of_inB this.1.1
theorem ck_bd {fs gs : List F3} (h : trB fs = true) (g : trB gs = true) : (0 ≤ ckA fs gs ∧ ckA fs gs ≤ 1000000000) ∧ ckE fs gs ≤ 1000000000 := by
  obtain ⟨h1, h2⟩ := tr_fix h
  obtain ⟨g1, g2⟩ := tr_fix g
  have a := h2 0 (by omega)
  have b := g2 0 (by omega)
  have c := h2 (fs.length - 1) (by omega)
  unfold ckA ckE
  omega
set_option maxRecDepth 100000 in
set_option maxHeartbeats 4000000 in
theorem pairChecks_any (l s d p i k : Int) (t u : T1) (w : World) (hf : Fxs w t.a t.fs) (hg : Fxs w u.a u.fs) (hv : wpB l s d p t u = true) :
    Calls Tryz.prog 42 #[Pv l s d p i k t u] w fun x w' => ∃ v, x = .returned (.tuple #[v, .int .i64 (pcC p t.fs u.fs)]) ∧ OwnZ w' w.heap.size v (pcZ p t.fs u.fs) ∧ Ext w w' := by
  obtain ⟨hw, ht, hu⟩ := cc_ok (fs := t.fs) (gs := u.fs) hv
  obtain ⟨_, _, _, p0, p1⟩ := wt_yes hw
  obtain ⟨b1, b2⟩ := ck_bd ht hu
  have hl1 := (tr_fix ht).1
  have hl2 := (tr_fix hu).1
  obtain ⟨W0, hW0⟩ : ∃ W0, W0 = w.alloc (.cells #[.int .i64 l, .int .i64 s, .int .i64 d, .int .i64 p, .int .i64 i, .int .i64 k, TV t, TV u] 77) := ⟨_, rfl⟩
  have hX : Ext w W0 := hW0 ▸ ((Ext.refl w).alloc _)
  have hs0 : W0.heap.size = w.heap.size + 1 := by rw [hW0]; simp
  have e00 : ∀ w', (Ext W0) w' → w'.cell? ⟨w.heap.size, 0, none⟩ = some (.int .i64 l) := fun w' h => h.cellOf (by rw [hW0]; exact boxed 0 rfl (by simp))
  have e01 : ∀ w', (Ext W0) w' → w'.cell? ⟨w.heap.size, 1, none⟩ = some (.int .i64 s) := fun w' h => h.cellOf (by rw [hW0]; exact boxed 1 rfl (by simp))
  have e02 : ∀ w', (Ext W0) w' → w'.cell? ⟨w.heap.size, 2, none⟩ = some (.int .i64 d) := fun w' h => h.cellOf (by rw [hW0]; exact boxed 2 rfl (by simp))
  have e03 : ∀ w', (Ext W0) w' → w'.cell? ⟨w.heap.size, 3, none⟩ = some (.int .i64 p) := fun w' h => h.cellOf (by rw [hW0]; exact boxed 3 rfl (by simp))
  have e04 : ∀ w', (Ext W0) w' → w'.cell? ⟨w.heap.size, 4, none⟩ = some (.int .i64 i) := fun w' h => h.cellOf (by rw [hW0]; exact boxed 4 rfl (by simp))
  have e05 : ∀ w', (Ext W0) w' → w'.cell? ⟨w.heap.size, 5, none⟩ = some (.int .i64 k) := fun w' h => h.cellOf (by rw [hW0]; exact boxed 5 rfl (by simp))
  have e06 : ∀ w', (Ext W0) w' → w'.cell? ⟨w.heap.size, 6, none⟩ = some (TV t) := fun w' h => h.cellOf (by rw [hW0]; exact boxed 6 rfl (by simp))
  have e07 : ∀ w', (Ext W0) w' → w'.cell? ⟨w.heap.size, 7, none⟩ = some (TV u) := fun w' h => h.cellOf (by rw [hW0]; exact boxed 7 rfl (by simp))
  have sW := Ext.size hX
  have HF := Lib.hid (hf.ext hX)
  have HG := Lib.hid (hg.ext hX)
  have KA := Lib.hid (fun w (h : Fxs w t.a t.fs) => first_any t.a t.c t.fs w h (by omega))
  have KB := Lib.hid (fun w (h : Fxs w u.a u.fs) => first_any u.a u.c u.fs w h (by omega))
  have LA := Lib.hid (fun w (h : Fxs w t.a t.fs) => last_any t.a t.c t.fs w h (by omega))
  have LB := Lib.hid (fun w (h : Fxs w u.a u.fs) => last_any u.a u.c u.fs w h (by omega))
  have KS := Lib.hid (fun w => steps_impl l s d p (ckA t.fs u.fs) (ckE t.fs u.fs) w b1 b2 ⟨p0, p1⟩)
  have HC := Lib.hid (show pcC p t.fs u.fs = swC (ckA t.fs u.fs) (ckE t.fs u.fs) p from rfl)
  have HZ := Lib.hid (show pcZ p t.fs u.fs = swZ (ckA t.fs u.fs) (ckE t.fs u.fs) p from rfl)
  have M1 : max (fx t.fs 0).t (fx u.fs 0).t = ckA t.fs u.fs := rfl
  have M2 : min (fx t.fs (t.fs.length - 1)).t (fx u.fs (u.fs.length - 1)).t = ckE t.fs u.fs := rfl
  generalize ckA t.fs u.fs = M at *
  generalize ckE t.fs u.fs = E at *
  generalize pcC p t.fs u.fs = C at *
  generalize pcZ p t.fs u.fs = Z at *
  have hf1 := fieldT (fx t.fs 0)
  have hf2 := fieldT (fx u.fs 0)
  have hf3 := fieldT (fx t.fs (t.fs.length - 1))
  have hf4 := fieldT (fx u.fs (u.fs.length - 1))
  generalize fx t.fs 0 = P1 at *
  generalize fx u.fs 0 = P2 at *
  generalize fx t.fs (t.fs.length - 1) = P3 at *
  generalize fx u.fs (u.fs.length - 1) = P4 at *
  have hM : (P2.t ≤ P1.t ∧ M = P1.t) ∨ (¬ P2.t ≤ P1.t ∧ M = P2.t) := by omega
  have hE : (P3.t ≤ P4.t ∧ E = P3.t) ∨ (¬ P3.t ≤ P4.t ∧ E = P4.t) := by omega
  clear M1 M2
  clear hf hg hv hw ht hu b1 b2 hl1 hl2
  rcases hM with ⟨c8, rfl⟩ | ⟨c8, rfl⟩ <;> rcases hE with ⟨c9, rfl⟩ | ⟨c9, rfl⟩
  all_goals
    have hr := Ext.refl W0
    go_enter Tryz.func42, Tryz.ntmps42
    go_wp2_with fail
    rw [← hW0]
    clear hW0
    refine wp_region_held_drew (S := (fun w' => Ext W0 w')) (by kernel_rfl) (by (try dsimp only); first | go_keep | exact (Ext.refl _).drew | exact Res.new2.drew | exact Res.new4.drew | exact ResB.drew (by assumption) | exact ResC.drew (by assumption) | assumption | exact Ext.drew (by assumption) | exact Res.drew (by assumption)) (fun hHeld => ?_)
    refine Ord.K 0 6 ?_
    refine Ord.K 1 7 ?_
    refine Ord.K 4 10 ?_
    refine Ord.K 5 11 ?_
    (refine wpAnyH_ready (rs := [2]) (by kernel_rfl) (by simp) ?_; refine AllReadyH.cons rfl (fun K hK => ?_) AllReadyH.nil; go_simp; (first | (go_at_call 67; with_reducible refine (KA.out _ (HF.out.ext (by first | assumption | exact (Ext.refl _).drew))).mono ?_; rintro e w4 ⟨rfl, hy⟩) | (go_at_call 67; with_reducible refine (KB.out _ (HG.out.ext (by first | assumption | exact (Ext.refl _).drew))).mono ?_; rintro e w5 ⟨rfl, hy⟩)); go_wp2_with fail; (refine hK.out _ _ (by first | assumption | exact Ext.trans (by assumption) hy | exact Res.ext (by assumption) hy | exact ResB.ext (by assumption) hy | exact ResC.ext (by assumption) hy | (go_split_ands; (repeat' apply And.intro) <;> exact Ext.cellOf hy (by assumption))) (fun hHeld => ?_)); clear hK K; (try simp only [Act.put, Ord.a, Ord.b, Ord.c]))
    refine Ord.K 3 9 ?_
    (refine wpAnyH_ready (rs := [6]) (by kernel_rfl) (by simp) ?_; refine AllReadyH.cons rfl (fun K hK => ?_) AllReadyH.nil; go_simp; (first | (go_at_call 67; with_reducible refine (KA.out _ (HF.out.ext (by first | assumption | exact (Ext.refl _).drew))).mono ?_; rintro e w4 ⟨rfl, hy⟩) | (go_at_call 67; with_reducible refine (KB.out _ (HG.out.ext (by first | assumption | exact (Ext.refl _).drew))).mono ?_; rintro e w5 ⟨rfl, hy⟩)); go_wp2_with fail; (refine hK.out _ _ (by first | assumption | exact Ext.trans (by assumption) hy | exact Res.ext (by assumption) hy | exact ResB.ext (by assumption) hy | exact ResC.ext (by assumption) hy | (go_split_ands; (repeat' apply And.intro) <;> exact Ext.cellOf hy (by assumption))) (fun hHeld => ?_)); clear hK K; (try simp only [Act.put, Ord.a, Ord.b, Ord.c]))
    refine Ord.K 7 13 ?_
    refine Ord.K 8 14 ?_
    refine Ord.K 9 4 ?_
    refine wpAnyH_done (by kernel_rfl) ?_ _
    have X1 : Ext W0 w5 := hHeld
    clear hHeld hy hr
    replace HF := Lib.hid (HF.out.ext X1)
    replace HG := Lib.hid (HG.out.ext X1)
    have d0 : ∀ w', Ext w5 w' → w'.cell? ⟨w.heap.size, 0, none⟩ = some (.int .i64 l) := fun w' h => e00 w' (X1.trans h)
    have d1 : ∀ w', Ext w5 w' → w'.cell? ⟨w.heap.size, 1, none⟩ = some (.int .i64 s) := fun w' h => e01 w' (X1.trans h)
    have d2 : ∀ w', Ext w5 w' → w'.cell? ⟨w.heap.size, 2, none⟩ = some (.int .i64 d) := fun w' h => e02 w' (X1.trans h)
    have d3 : ∀ w', Ext w5 w' → w'.cell? ⟨w.heap.size, 3, none⟩ = some (.int .i64 p) := fun w' h => e03 w' (X1.trans h)
    have d6 : ∀ w', Ext w5 w' → w'.cell? ⟨w.heap.size, 6, none⟩ = some (TV t) := fun w' h => e06 w' (X1.trans h)
    have d7 : ∀ w', Ext w5 w' → w'.cell? ⟨w.heap.size, 7, none⟩ = some (TV u) := fun w' h => e07 w' (X1.trans h)
    clear e00 e01 e02 e03 e04 e05 e06 e07
    have hr := Ext.refl w5
    go_upto_region 2 with fail
    refine wp_region_held_drew (S := (fun w' => Ext w5 w')) (by kernel_rfl) (by (try dsimp only); first | go_keep | exact (Ext.refl _).drew | exact Res.new2.drew | exact Res.new4.drew | exact ResB.drew (by assumption) | exact ResC.drew (by assumption) | assumption | exact Ext.drew (by assumption) | exact Res.drew (by assumption)) (fun hHeld => ?_)
    refine Ord.K 0 15 ?_
    refine Ord.K 1 16 ?_
    refine Ord.K 4 19 ?_
    refine Ord.K 5 20 ?_
    (refine wpAnyH_ready (rs := [2]) (by kernel_rfl) (by simp) ?_; refine AllReadyH.cons rfl (fun K hK => ?_) AllReadyH.nil; go_simp; (first | (go_at_call 68; with_reducible refine (LA.out _ (HF.out.ext (by first | assumption | exact (Ext.refl _).drew))).mono ?_; rintro e w6 ⟨rfl, hy⟩) | (go_at_call 68; with_reducible refine (LB.out _ (HG.out.ext (by first | assumption | exact (Ext.refl _).drew))).mono ?_; rintro e w7 ⟨rfl, hy⟩)); go_wp2_with fail; (refine hK.out _ _ (by first | assumption | exact Ext.trans (by assumption) hy | exact Res.ext (by assumption) hy | exact ResB.ext (by assumption) hy | exact ResC.ext (by assumption) hy | (go_split_ands; (repeat' apply And.intro) <;> exact Ext.cellOf hy (by assumption))) (fun hHeld => ?_)); clear hK K; (try simp only [Act.put, Ord.a, Ord.b, Ord.c]))
    refine Ord.K 3 18 ?_
    (refine wpAnyH_ready (rs := [6]) (by kernel_rfl) (by simp) ?_; refine AllReadyH.cons rfl (fun K hK => ?_) AllReadyH.nil; go_simp; (first | (go_at_call 68; with_reducible refine (LA.out _ (HF.out.ext (by first | assumption | exact (Ext.refl _).drew))).mono ?_; rintro e w6 ⟨rfl, hy⟩) | (go_at_call 68; with_reducible refine (LB.out _ (HG.out.ext (by first | assumption | exact (Ext.refl _).drew))).mono ?_; rintro e w7 ⟨rfl, hy⟩)); go_wp2_with fail; (refine hK.out _ _ (by first | assumption | exact Ext.trans (by assumption) hy | exact Res.ext (by assumption) hy | exact ResB.ext (by assumption) hy | exact ResC.ext (by assumption) hy | (go_split_ands; (repeat' apply And.intro) <;> exact Ext.cellOf hy (by assumption))) (fun hHeld => ?_)); clear hK K; (try simp only [Act.put, Ord.a, Ord.b, Ord.c]))
    refine Ord.K 7 22 ?_
    refine Ord.K 8 23 ?_
    refine Ord.K 9 5 ?_
    refine wpAnyH_done (by kernel_rfl) ?_ _
    have X2 : Ext w5 w7 := hHeld
    have c0 := d0 w7 X2
    have c1 := d1 w7 X2
    have c2 := d2 w7 X2
    have c3 := d3 w7 X2
    have X3 := Lib.hid (hX.trans (X1.trans X2))
    clear hHeld hy hr d0 d1 d2 d3 d6 d7 X1 X2
    go_wp2_with fail
    refine (KS.out _).mono ?_
    rintro e w8 ⟨v, rfl, hO, hy⟩
    go_wp2
    go_ret2
    exact ⟨_, ret_vc HC.out, by rw [HZ.out]; exact OwnZ.mono hO (Ext.size X3.out), X3.out.trans hy⟩
end Go.Proofs.YtknelhceaoblhaaGreat.Cks
