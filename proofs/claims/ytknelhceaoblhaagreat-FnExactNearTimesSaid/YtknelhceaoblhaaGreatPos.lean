import Derived.Test.YtknelhceaoblhaaGreatAt
import Derived.Test.YtknelhceaoblhaaGreatHead
namespace Go.Proofs.YtknelhceaoblhaaGreat.Trk
open Go.ChangeShapes Go.WideShapes Go.ChangeAt Go.RowKit
open Go.Proofs.YtknelhceaoblhaaGreat.Num Go.Proofs.YtknelhceaoblhaaGreat.Kit Go.Proofs.YtknelhceaoblhaaGreat.Pts Go.Proofs.YtknelhceaoblhaaGreat.Seg Go.Proofs.YtknelhceaoblhaaGreat.Div
set_option linter.unusedVariables false
set_option linter.unusedSimpArgs false
def pkX (fs : List F3) (t : Int) (k : Nat) : Int := (fx fs k).x + pa (t - (fx fs k).t) (durI fs k) (hdX fs k)
def pkY (fs : List F3) (t : Int) (k : Nat) : Int := (fx fs k).y + pa (t - (fx fs k).t) (durI fs k) (hdY fs k)
theorem leg_in {fs : List F3} {t : Int} (hv : trB fs = true) (hl : lastB fs t = true) : (fx fs (legOf fs t)).t ≤ t ∧ t ≤ (fx fs (legOf fs t + 1)).t := by
  obtain ⟨⟨h2, _⟩, _⟩ := trB_yes hv
  obtain ⟨l0, l1⟩ := lastB_yes hl
  have hk := legOf_lt t h2
  refine ⟨legUp_at fs t l0 _, ?_⟩
  by_cases e : legOf fs t + 1 = fs.length - 1
  · rw [e]; exact l1
  · have := legUp_next fs t (fs.length - 1) (legOf fs t + 1) (by unfold legOf; omega) (by omega)
    omega
set_option maxHeartbeats 2000000 in
theorem positionAt_any (a : Option Addr) (cap : Nat) (fs : List F3) (t : Int) (w : World) (hf : Fxs w a fs) (hcap : fs.length ≤ cap) (hv : trB fs = true) (hl : lastB fs t = true) :
    Calls Tryz.prog 120 #[Tr (.slice a fs.length cap), .int .i64 t] w fun e w' => e = .returned (Pt (pkX fs t (legOf fs t)) (pkY fs t (legOf fs t))) ∧ Ext w w' := by
  obtain ⟨⟨h2, h40⟩, _⟩ := trB_yes hv
  have hk := legOf_lt t h2
  obtain ⟨⟨ca, cb, cc, cd⟩, d0, d1⟩ := leg_bounds hv hk
  obtain ⟨t0, t1⟩ := leg_in hv hl
  have HF := Lib.hid hf
  have HV := Lib.hid hv
  have PS := Lib.hid (fun w' => at_small _ _ _ _ (t - (fx fs (legOf fs t)).t) (durI fs (legOf fs t)) w' ca cb cc cd (by omega) (by unfold durI; omega) d0 d1)
  have HR := Lib.hid (And.intro (show pkX fs t (legOf fs t) = (fx fs (legOf fs t)).x + pa (t - (fx fs (legOf fs t)).t) (durI fs (legOf fs t)) ((fx fs (legOf fs t + 1)).x - (fx fs (legOf fs t)).x) from rfl) (show pkY fs t (legOf fs t) = (fx fs (legOf fs t)).y + pa (t - (fx fs (legOf fs t)).t) (durI fs (legOf fs t)) ((fx fs (legOf fs t + 1)).y - (fx fs (legOf fs t)).y) from rfl))
  have LA := Lib.hid (fun w' (hw : Fxs w' a fs) => legAt_any a cap fs t w' hw hcap hv hl)
  generalize legOf fs t = k at *
  rcases hf.2 with h | ⟨b, off, rfl, hb⟩
  · rw [h] at h2; simp at h2
  obtain ⟨c0, _, _⟩ := hb k (by omega)
  have T4 : IntKind.i64.wrap (t - (fx fs k).t) = t - (fx fs k).t := IntWalk.i64_in _ (by unfold durI at d1; omega)
  clear hb hf ca cb cc cd
  go_enter Tryz.func120, Tryz.ntmps120
  go_wp2_with fail
  refine (LA.out _ (HF.out.ext (by repeat (first | exact Ext.refl _ | assumption | apply Ext.alloc | apply Ext.drew | (refine Ext.trans ?_ (by assumption)) | (refine Ext.setNew ?_ (by simp <;> omega) _))))).mono ?_
  rintro e w1 ⟨rfl, h⟩
  obtain ⟨W0, hW0⟩ : ∃ W0, W0 = w.alloc (.cells #[.slice (some ⟨b, off, none⟩) fs.length cap] 30) := ⟨_, rfl⟩
  have hs0 : W0.heap.size = w.heap.size + 1 := by rw [hW0]; simp
  have S0 : Res W0 W0.heap.size 2 w1 := (Res.new2 (W := W0) (x := .int .i64 0) (y := .int .i64 0) (t := 113)).ext (hW0 ▸ h)
  rw [hs0] at S0
  have hX : Ext w W0 := hW0 ▸ (Ext.refl w).alloc _
  have ec : ∀ w', Res W0 (w.heap.size + 1) 2 w' → w'.cell? ⟨w.heap.size, 0, none⟩ = some (.slice (some ⟨b, off, none⟩) fs.length cap) := fun w' h => h.1.cellOf (hW0 ▸ boxed 0 rfl rfl)
  have ec0 : ∀ w', Res W0 (w.heap.size + 1) 2 w' → w'.cell? ⟨b, off + k * 3, none⟩ = some (.int .i64 (fx fs k).t) := fun w' h => h.1.cellOf (hX.cellOf c0)
  have i0 : (0 : Int) ≤ (k : Int) := by omega
  have i1 : (k : Int) < (fs.length : Int) := by omega
  clear hW0 hs0 c0 h
  go_wp2_with fail
  refine wp_region_held_drew (S := (Res W0 (w.heap.size + 1) 2)) (by kernel_rfl) (by (try dsimp only); first | go_keep | exact (Ext.refl _).drew | exact Res.new2.drew | exact Res.new4.drew | exact ResB.drew (by assumption) | exact ResC.drew (by assumption) | assumption | exact Ext.drew (by assumption) | exact Res.drew (by assumption)) (fun hHeld => ?_)
  refine Ord.K 0 9 ?_
  refine Ord.K 1 10 ?_
  refine Ord.K 3 12 ?_
  refine Ord.K 4 13 ?_
  refine Ord.K 5 14 ?_
  refine Ord.K 6 15 ?_
  refine Ord.K 7 16 ?_
  refine Ord.K 8 17 ?_
  refine Ord.K 9 18 ?_
  refine Ord.K 10 19 ?_
  refine Ord.K 11 20 ?_
  refine Ord.K 12 21 ?_
  (refine wpAnyH_ready (rs := [2]) (by kernel_rfl) (by simp) ?_; refine AllReadyH.cons rfl (fun K hK => ?_) AllReadyH.nil; go_simp; (first | (go_at_call 158; refine (leg_any _ _ _ _ _ (HF.out.ext (hX.trans (by assumption : Res _ _ _ _).1)) hk (by omega)).mono ?_; rintro e w2 ⟨rfl, hy⟩) | (go_at_call 162; refine (duration_any _ _ _ _ _ (HF.out.ext (hX.trans hHeld.1)) hk HV.out).mono ?_; rintro e w2 ⟨rfl, hy⟩) | (go_at_call 161; with_reducible refine (PS.out _).mono ?_; rintro e w2 ⟨rfl, hy⟩)); go_wp2_with fail; (refine hK.out _ _ (by first | assumption | exact Ext.trans (by assumption) hy | exact Res.ext (by assumption) hy | exact ResB.ext (by assumption) hy | exact ResC.ext (by assumption) hy | (go_split_ands; (repeat' apply And.intro) <;> exact Ext.cellOf hy (by assumption))) (fun hHeld => ?_)); clear hK K; (try simp only [Act.put, Ord.a, Ord.b, Ord.c]))
  (refine wpAnyH_ready (rs := [13]) (by kernel_rfl) (by simp) ?_; refine AllReadyH.cons rfl (fun K hK => ?_) AllReadyH.nil; go_simp; (first | (go_at_call 158; refine (leg_any _ _ _ _ _ (HF.out.ext (hX.trans (by assumption : Res _ _ _ _).1)) hk (by omega)).mono ?_; rintro e w2 ⟨rfl, hy⟩) | (go_at_call 162; refine (duration_any _ _ _ _ _ (HF.out.ext (hX.trans hHeld.1)) hk HV.out).mono ?_; rintro e w2 ⟨rfl, hy⟩) | (go_at_call 161; with_reducible refine (PS.out _).mono ?_; rintro e w2 ⟨rfl, hy⟩)); go_wp2_with fail; (refine hK.out _ _ (by first | assumption | exact Ext.trans (by assumption) hy | exact Res.ext (by assumption) hy | exact ResB.ext (by assumption) hy | exact ResC.ext (by assumption) hy | (go_split_ands; (repeat' apply And.intro) <;> exact Ext.cellOf hy (by assumption))) (fun hHeld => ?_)); clear hK K; (try simp only [Act.put, Ord.a, Ord.b, Ord.c]))
  refine Ord.K 14 23 ?_
  (refine wpAnyH_ready (rs := [15]) (by kernel_rfl) (by simp) ?_; refine AllReadyH.cons rfl (fun K hK => ?_) AllReadyH.nil; go_simp; (first | (go_at_call 158; refine (leg_any _ _ _ _ _ (HF.out.ext (hX.trans (by assumption : Res _ _ _ _).1)) hk (by omega)).mono ?_; rintro e w2 ⟨rfl, hy⟩) | (go_at_call 162; refine (duration_any _ _ _ _ _ (HF.out.ext (hX.trans hHeld.1)) hk HV.out).mono ?_; rintro e w2 ⟨rfl, hy⟩) | (go_at_call 161; with_reducible refine (PS.out _).mono ?_; rintro e w2 ⟨rfl, hy⟩)); go_wp2_with fail; (refine hK.out _ _ (by first | assumption | exact Ext.trans (by assumption) hy | exact Res.ext (by assumption) hy | exact ResB.ext (by assumption) hy | exact ResC.ext (by assumption) hy | (go_split_ands; (repeat' apply And.intro) <;> exact Ext.cellOf hy (by assumption))) (fun hHeld => ?_)); clear hK K; (try simp only [Act.put, Ord.a, Ord.b, Ord.c]))
  (((first | refine Exists.elim (Res.two hHeld) (fun rx rh => ?_) | refine Exists.elim (ResC.two hHeld) (fun rx rh => ?_) | refine Exists.elim (Res.two hHeld.1) (fun rx rh => ?_)); refine Exists.elim rh (fun ry rb => ?_); have r0 := rb.two.1.1; have r1 := rb.two.1.2; have r2 := rb.two.2.1; have r3 := rb.two.2.2; clear rh); refine wpAnyH_ready (rs := [16]) (by kernel_rfl) (by simp) ?_; refine AllReadyH.cons rfl (fun K hK => ?_) AllReadyH.nil; go_simp; (refine hK.out _ _ (by with_reducible exact Res.set (Res.set hHeld _ _) _ _) (fun hHeld => ?_)); clear hK K; (try simp only [Act.put, Ord.a, Ord.b, Ord.c]))
  refine wpAnyH_done (by kernel_rfl) ?_ _
  go_wp2
  rw [HR.out.1, HR.out.2]
  generalize (fx fs k).x + pa (t - (fx fs k).t) (durI fs k) ((fx fs (k + 1)).x - (fx fs k).x) = p at hHeld ⊢
  generalize (fx fs k).y + pa (t - (fx fs k).t) (durI fs k) ((fx fs (k + 1)).y - (fx fs k).y) = q at hHeld ⊢
  obtain ⟨⟨g0, g1⟩, _⟩ := (rb.set2 (u := .int .i64 p) (v := .int .i64 q)).two
  exact bodyPost_ret (v := Pt p q) (by simp [results, Tryz.results120, go_sem, g0, g1]) rfl ⟨rfl, hX.trans hHeld.1⟩
set_option maxHeartbeats 2000000 in
theorem at_spec (a : Option Addr) (cap : Nat) (fs : List F3) (t : Int) (w : World) (hf : Fxs w a fs) (hv : trB fs = true) (hl : lastB fs t = true) :
    Calls Tryz.prog 94 #[Tr (.slice a fs.length cap), .int .i64 t] w fun e w' => e = .returned (Pt (pkX fs t (legOf fs t)) (pkY fs t (legOf fs t))) ∧ Ext w w' := by
  obtain ⟨⟨h2, h40⟩, _⟩ := trB_yes hv
  have hk := legOf_lt t h2
  obtain ⟨⟨ca, cb, cc, cd⟩, d0, d1⟩ := leg_bounds hv hk
  obtain ⟨t0, t1⟩ := leg_in hv hl
  have HF := Lib.hid hf
  have PX := Lib.hid (fun w' => atS_any (fx fs (legOf fs t)).x (fx fs (legOf fs t + 1)).x (t - (fx fs (legOf fs t)).t) (durI fs (legOf fs t)) w' ca cc (by omega) (by unfold durI; omega) d0 (by omega))
  have PY := Lib.hid (fun w' => atS_any (fx fs (legOf fs t)).y (fx fs (legOf fs t + 1)).y (t - (fx fs (legOf fs t)).t) (durI fs (legOf fs t)) w' cb cd (by omega) (by unfold durI; omega) d0 (by omega))
  have HR := Lib.hid (And.intro (show pkX fs t (legOf fs t) = (fx fs (legOf fs t)).x + pa (t - (fx fs (legOf fs t)).t) (durI fs (legOf fs t)) ((fx fs (legOf fs t + 1)).x - (fx fs (legOf fs t)).x) from rfl) (show pkY fs t (legOf fs t) = (fx fs (legOf fs t)).y + pa (t - (fx fs (legOf fs t)).t) (durI fs (legOf fs t)) ((fx fs (legOf fs t + 1)).y - (fx fs (legOf fs t)).y) from rfl))
  have LA := Lib.hid (fun w' (hw : Fxs w' a fs) => leg_spec a cap fs t w' hw (by omega) (by omega))
  generalize legOf fs t = k at *
  rcases hf.2 with h | ⟨b, off, rfl, hb⟩
  · rw [h] at h2; simp at h2
  obtain ⟨c0, c1, c2⟩ := hb k (by omega)
  obtain ⟨e0, e1, e2⟩ := hb (k + 1) hk
  have T4 : IntKind.i64.wrap (t - (fx fs k).t) = t - (fx fs k).t := IntWalk.i64_in _ (by unfold durI at d1; omega)
  have T5 : IntKind.i64.wrap ((fx fs (k + 1)).t - (fx fs k).t) = durI fs k := by rw [IntWalk.i64_in _ (by unfold durI at d0 d1; omega)]; rfl
  have i0 : (0 : Int) ≤ (k : Int) := by omega
  have i1 : (k : Int) < (fs.length : Int) := by omega
  have i2 : (0 : Int) ≤ (k : Int) + 1 := by omega
  have i3 : (k : Int) + 1 < (fs.length : Int) := by omega
  have T0 : IntKind.i64.wrap ((k : Int) + 1) = (k : Int) + 1 := wrap_succ (by omega)
  have T1 : ((k : Int) + 1).toNat = k + 1 := by omega
  clear hb hf ca cb cc cd
  go_enter Tryz.func94, Tryz.ntmps94
  go_wp2_with fail
  refine (LA.out _ (HF.out.ext (by repeat (first | exact Ext.refl _ | assumption | apply Ext.alloc | apply Ext.drew | (refine Ext.trans ?_ (by assumption)) | (refine Ext.setNew ?_ (by simp <;> omega) _))))).mono ?_
  rintro e w1 ⟨rfl, h⟩
  have B := Lib.hid ((Box.new2 (w := w.alloc (.cells #[.slice (some ⟨b, off, none⟩) fs.length cap] 30)) (n := w.heap.size + 1) (x := .int .i64 0) (y := .int .i64 0) (t := 113) (by simp)).ext h)
  have X := Lib.hid ((((Ext.refl w).alloc _).alloc _).trans h)
  have ec : ∀ w', Ext w1 w' → w'.cell? ⟨w.heap.size, 0, none⟩ = some (.slice (some ⟨b, off, none⟩) fs.length cap) := fun w' g => g.cellOf (h.cellOf (((Ext.refl _).alloc _).cellOf (boxed 0 rfl rfl)))
  have ec0 : ∀ w', Ext w1 w' → w'.cell? ⟨b, off + k * 3, none⟩ = some (.int .i64 (fx fs k).t) := fun w' h => h.cellOf (X.out.cellOf c0)
  have ec1 : ∀ w', Ext w1 w' → w'.cell? ⟨b, off + k * 3 + 1, none⟩ = some (.int .i64 (fx fs k).x) := fun w' h => h.cellOf (X.out.cellOf c1)
  have ec2 : ∀ w', Ext w1 w' → w'.cell? ⟨b, off + k * 3 + 2, none⟩ = some (.int .i64 (fx fs k).y) := fun w' h => h.cellOf (X.out.cellOf c2)
  have ee0 : ∀ w', Ext w1 w' → w'.cell? ⟨b, off + (k + 1) * 3, none⟩ = some (.int .i64 (fx fs (k + 1)).t) := fun w' h => h.cellOf (X.out.cellOf e0)
  have ee1 : ∀ w', Ext w1 w' → w'.cell? ⟨b, off + (k + 1) * 3 + 1, none⟩ = some (.int .i64 (fx fs (k + 1)).x) := fun w' h => h.cellOf (X.out.cellOf e1)
  have ee2 : ∀ w', Ext w1 w' → w'.cell? ⟨b, off + (k + 1) * 3 + 2, none⟩ = some (.int .i64 (fx fs (k + 1)).y) := fun w' h => h.cellOf (X.out.cellOf e2)
  have z1 : w.heap.size + 1 < w1.heap.size := by have := h.size; simp at this; omega
  clear c0 c1 c2 e0 e1 e2 h
  go_upto_region 2 with fail
  go_cut [6, 7] (fun s s2 wx => (∃ B, s = .pointer (some ⟨B, 0, none⟩) ∧ B ≠ w.heap.size + 1 ∧ Box wx B [.int .i64 (fx fs k).t, .int .i64 (fx fs k).x, .int .i64 (fx fs k).y]) ∧ (∃ B, s2 = .pointer (some ⟨B, 0, none⟩) ∧ B ≠ w.heap.size + 1 ∧ Box wx B [.int .i64 (fx fs (k + 1)).t, .int .i64 (fx fs (k + 1)).x, .int .i64 (fx fs (k + 1)).y]) ∧ Ext w1 wx)
  case first =>
    go_region_held3 (fun w' => Ext w1 w')
      (repeat (first | exact Ext.refl _ | assumption | apply Ext.drew | apply Ext.alloc))
      (fail)
    all_goals
      go_wp2_with fail
      go_meet
      exact ⟨⟨_, rfl, by simp <;> omega, (by first | exact (Box.new3 (by simp)).drew | exact ((Box.new3 rfl).alloc _).drew)⟩, ⟨_, rfl, by simp <;> omega, (by first | exact (Box.new3 (by simp)).drew | exact ((Box.new3 rfl).alloc _).drew)⟩, ((Ext.refl _).alloc _ |>.alloc _).drew⟩
  case rest =>
    obtain ⟨⟨B6, rfl, n6, H6⟩, ⟨B7, rfl, n7, H7⟩, hx⟩ := hcut
    have f0 := (H6 0 _ rfl).1
    have f1 := (H6 1 _ rfl).1
    have f2 := (H6 2 _ rfl).1
    have g0 := (H7 0 _ rfl).1
    have g1 := (H7 1 _ rfl).1
    have g2 := (H7 2 _ rfl).1
    replace X := Lib.hid (X.out.trans hx)
    replace B := Lib.hid (B.out.ext hx)
    have z2 := hx.size
    clear ec ec0 ec1 ec2 ee0 ee1 ee2 hx
    go_upto_region 4 with fail
    generalize hW : wc.alloc (.cells #[.int .i64 (t - (fx fs k).t), .int .i64 (durI fs k)] 175) = W
    have hX : Ext wc W := hW ▸ (Ext.refl wc).alloc _
    have n8 : wc.heap.size ≠ w.heap.size + 1 := by omega
    have S0 : ResC W (w.heap.size + 1) 2 W := ResC.of2 (B.out.ext hX)
    have ef1 : ∀ w', ResC W (w.heap.size + 1) 2 w' → w'.cell? ⟨B6, 1, none⟩ = some (.int .i64 (fx fs k).x) := fun w' h => h.cell n6 (hX.cellOf f1)
    have ef2 : ∀ w', ResC W (w.heap.size + 1) 2 w' → w'.cell? ⟨B6, 2, none⟩ = some (.int .i64 (fx fs k).y) := fun w' h => h.cell n6 (hX.cellOf f2)
    have eg1 : ∀ w', ResC W (w.heap.size + 1) 2 w' → w'.cell? ⟨B7, 1, none⟩ = some (.int .i64 (fx fs (k + 1)).x) := fun w' h => h.cell n7 (hX.cellOf g1)
    have eg2 : ∀ w', ResC W (w.heap.size + 1) 2 w' → w'.cell? ⟨B7, 2, none⟩ = some (.int .i64 (fx fs (k + 1)).y) := fun w' h => h.cell n7 (hX.cellOf g2)
    have er0 : ∀ w', ResC W (w.heap.size + 1) 2 w' → w'.cell? ⟨wc.heap.size, 0, none⟩ = some (.int .i64 (t - (fx fs k).t)) := fun w' h => h.cell n8 (hW ▸ boxed 0 rfl rfl)
    have er1 : ∀ w', ResC W (w.heap.size + 1) 2 w' → w'.cell? ⟨wc.heap.size, 1, none⟩ = some (.int .i64 (durI fs k)) := fun w' h => h.cell n8 (hW ▸ boxed 1 rfl rfl)
    clear f0 f1 f2 g0 g1 g2 H6 H7 hW
    refine wp_region_held_drew (S := (ResC W (w.heap.size + 1) 2)) (by kernel_rfl) (by (try dsimp only); first | go_keep | exact (Ext.refl _).drew | exact Res.new2.drew | exact Res.new4.drew | exact ResB.drew (by assumption) | exact ResC.drew (by assumption) | assumption | exact Ext.drew (by assumption) | exact Res.drew (by assumption)) (fun hHeld => ?_)
    refine Ord.K 0 33 ?_
    refine Ord.K 1 34 ?_
    refine Ord.K 2 35 ?_
    refine Ord.K 3 36 ?_
    refine Ord.K 4 37 ?_
    refine Ord.K 6 39 ?_
    refine Ord.K 7 40 ?_
    refine Ord.K 8 41 ?_
    refine Ord.K 9 42 ?_
    refine Ord.K 10 43 ?_
    (refine wpAnyH_ready (rs := [5]) (by kernel_rfl) (by simp) ?_; refine AllReadyH.cons rfl (fun K hK => ?_) AllReadyH.nil; go_simp; (first | (go_at_call 130; with_reducible refine (PX.out _).mono ?_; rintro e w2 ⟨rfl, hy⟩) | (go_at_call 130; with_reducible refine (PY.out _).mono ?_; rintro e w2 ⟨rfl, hy⟩)); go_wp2_with fail; (refine hK.out _ _ (by first | assumption | exact Ext.trans (by assumption) hy | exact Res.ext (by assumption) hy | exact ResB.ext (by assumption) hy | exact ResC.ext (by assumption) hy | (go_split_ands; (repeat' apply And.intro) <;> exact Ext.cellOf hy (by assumption))) (fun hHeld => ?_)); clear hK K; (try simp only [Act.put, Ord.a, Ord.b, Ord.c]))
    (refine wpAnyH_ready (rs := [11]) (by kernel_rfl) (by simp) ?_; refine AllReadyH.cons rfl (fun K hK => ?_) AllReadyH.nil; go_simp; (first | (go_at_call 130; with_reducible refine (PX.out _).mono ?_; rintro e w2 ⟨rfl, hy⟩) | (go_at_call 130; with_reducible refine (PY.out _).mono ?_; rintro e w2 ⟨rfl, hy⟩)); go_wp2_with fail; (refine hK.out _ _ (by first | assumption | exact Ext.trans (by assumption) hy | exact Res.ext (by assumption) hy | exact ResB.ext (by assumption) hy | exact ResC.ext (by assumption) hy | (go_split_ands; (repeat' apply And.intro) <;> exact Ext.cellOf hy (by assumption))) (fun hHeld => ?_)); clear hK K; (try simp only [Act.put, Ord.a, Ord.b, Ord.c]))
    refine Ord.K 12 45 ?_
    ((first | ((first | refine Exists.elim (Res.two hHeld) (fun rx rh => ?_) | refine Exists.elim (ResC.two hHeld) (fun rx rh => ?_) | refine Exists.elim (Res.two hHeld.1) (fun rx rh => ?_)); refine Exists.elim rh (fun ry rb => ?_); have r0 := rb.two.1.1; have r1 := rb.two.1.2; have r2 := rb.two.2.1; have r3 := rb.two.2.2; clear rh) | ((first | refine Exists.elim (Res.four hHeld) (fun rx rh => ?_) | refine Exists.elim (Res.four hHeld.1) (fun rx rh => ?_)); refine Exists.elim rh (fun ry rh => ?_); refine Exists.elim rh (fun rz rh => ?_); refine Exists.elim rh (fun ru rb => ?_); have r0 := rb.four.1.1; have r1 := rb.four.1.2.1; have r2 := rb.four.1.2.2.1; have r3 := rb.four.1.2.2.2; have r4 := rb.four.2.1; have r5 := rb.four.2.2.1; have r6 := rb.four.2.2.2.1; have r7 := rb.four.2.2.2.2; clear rh) | (refine Exists.elim (Res.three hHeld) (fun rx rh => ?_); refine Exists.elim rh (fun ry rh => ?_); refine Exists.elim rh (fun rz rb => ?_); have r0 := rb.three'.1.1; have r1 := rb.three'.1.2.1; have r2 := rb.three'.1.2.2; have r3 := rb.three'.2.1; have r4 := rb.three'.2.2.1; have r5 := rb.three'.2.2.2; clear rh; (try simp only [World.cell?_drew, World.frozen?_drew] at r0 r1 r2 r3 r4 r5)) | ((first | refine Exists.elim (Res.five hHeld) (fun rx rh => ?_) | refine Exists.elim (Res.five hHeld.1) (fun rx rh => ?_)); refine Exists.elim rh (fun ry rh => ?_); refine Exists.elim rh (fun rz rh => ?_); refine Exists.elim rh (fun ru rh => ?_); refine Exists.elim rh (fun rt rb => ?_); have r0 := rb.five.1.1; have r1 := rb.five.1.2.1; have r2 := rb.five.1.2.2.1; have r3 := rb.five.1.2.2.2.1; have r4 := rb.five.1.2.2.2.2; have r5 := rb.five.2.1; have r6 := rb.five.2.2.1; have r7 := rb.five.2.2.2.1; have r8 := rb.five.2.2.2.2.1; have r9 := rb.five.2.2.2.2.2; clear rh; (try simp only [World.cell?_drew, World.frozen?_drew] at r0 r1 r2 r3 r4 r5 r6 r7 r8 r9)) | (refine Exists.elim (SD.one hHeld) (fun rx rh => ?_); have r0 := rh.1; have r1 := rh.2; clear rh)); refine wpAnyH_ready (rs := [13]) (by kernel_rfl) (by simp) ?_; refine AllReadyH.cons rfl (fun K hK => ?_) AllReadyH.nil; go_simp; (refine hK.out _ _ (by first | with_reducible exact SD.set hHeld _ | with_reducible exact Res.set (Res.set hHeld _ _) _ _ | with_reducible exact ResB.set (ResB.set hHeld _ _) _ _ | with_reducible exact ResC.set (ResC.set hHeld _ _) _ _ | with_reducible exact Res.set (Res.set (Res.set (Res.set hHeld _ _) _ _) _ _) _ _ | with_reducible exact ResB.set (ResB.set (ResB.set (ResB.set hHeld _ _) _ _) _ _) _ _ | with_reducible exact Res.set (Res.set (Res.set hHeld _ _) _ _) _ _ | with_reducible exact Res.set (Res.set (Res.set (Res.set (Res.set hHeld _ _) _ _) _ _) _ _) _ _) (fun hHeld => ?_)); clear hK K; (try simp only [Act.put, Ord.a, Ord.b, Ord.c]))
    refine wpAnyH_done (by kernel_rfl) ?_ _
    go_wp2
    rw [HR.out.1, HR.out.2]
    generalize (fx fs k).x + pa (t - (fx fs k).t) (durI fs k) ((fx fs (k + 1)).x - (fx fs k).x) = p at hHeld ⊢
    generalize (fx fs k).y + pa (t - (fx fs k).t) (durI fs k) ((fx fs (k + 1)).y - (fx fs k).y) = q at hHeld ⊢
    obtain ⟨⟨g0, g1⟩, _⟩ := (rb.set2 (u := .int .i64 p) (v := .int .i64 q)).two
    exact bodyPost_ret (v := Pt p q) (by simp [results, Tryz.results94, go_sem, g0, g1]) rfl ⟨rfl, hHeld.to (X.out.trans hX) (by omega)⟩
end Go.Proofs.YtknelhceaoblhaaGreat.Trk
