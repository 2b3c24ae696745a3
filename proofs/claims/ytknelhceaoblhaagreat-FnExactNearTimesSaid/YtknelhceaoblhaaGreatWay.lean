import Derived.Test.YtknelhceaoblhaaGreatMTrk
import Derived.Test.YtknelhceaoblhaaGreatRes
import Derived.Test.YtknelhceaoblhaaGreatMPts
namespace Go.Proofs.YtknelhceaoblhaaGreat.Trk
open Go.ChangeShapes Go.WideShapes Go.ChangeAt Go.RowKit
open Go.Proofs.YtknelhceaoblhaaGreat.Num Go.Proofs.YtknelhceaoblhaaGreat.Kit Go.Proofs.YtknelhceaoblhaaGreat.Pts Go.Proofs.YtknelhceaoblhaaGreat.Seg
set_option linter.unusedVariables false
set_option linter.unusedSimpArgs false
theorem fxB_yes {f : F3} (h : fxB f = true) : (0 ≤ f.t ∧ f.t ≤ 1000000000) ∧ Co f.x ∧ Co f.y := by
  unfold fxB at h
  simp only [Bool.and_eq_true] at h
  refine ⟨by simpa [tmB, inB] using h.1, ptB_yes h.2⟩
theorem okB_fx {fs : List F3} {k : Nat} (h : okB fs k = true) : fxB (fx fs k) = true := by
  unfold okB at h
  simp only [Bool.and_eq_true] at h
  exact h.1
def durI (fs : List F3) (k : Nat) : Int := (fx fs (k + 1)).t - (fx fs k).t
theorem duration_any (a : Option Addr) (cap : Nat) (fs : List F3) (k : Nat) (w : World) (hf : Fxs w a fs) (hk : k + 1 < fs.length) (hv : trB fs = true) :
    Calls Tryz.prog 162 #[Tr (.slice a fs.length cap), .int .i64 k] w fun e w' => e = .returned (.int .i64 (durI fs k)) ∧ Ext w w' := by
  obtain ⟨⟨h2, h40⟩, hok⟩ := trB_yes hv
  rcases hf.2 with h | ⟨b, off, rfl, hb⟩
  · rw [h] at h2; simp at h2
  obtain ⟨c0, _, _⟩ := hb k (by omega)
  obtain ⟨d0, _, _⟩ := hb (k + 1) hk
  have B0 := (fxB_yes (okB_fx (hok k (by omega)))).1
  have B1 := (fxB_yes (okB_fx (hok (k + 1) hk))).1
  have i0 : (0 : Int) ≤ (k : Int) := by omega
  have i1 : (k : Int) < (fs.length : Int) := by omega
  have i2 : (0 : Int) ≤ (k : Int) + 1 := by omega
  have i3 : (k : Int) + 1 < (fs.length : Int) := by omega
  have T0 : IntKind.i64.wrap ((k : Int) + 1) = (k : Int) + 1 := wrap_succ (by omega)
  have T1 : ((k : Int) + 1).toNat = k + 1 := by omega
  have E : IntKind.i64.wrap ((fx fs (k + 1)).t - (fx fs k).t) = (fx fs (k + 1)).t - (fx fs k).t := IntWalk.i64_in _ (by omega)
  have hcell0 : ∀ w', Ext (w.alloc (.cells #[.slice (some ⟨b, off, none⟩) fs.length cap] 30)) w' → w'.cell? ⟨w.heap.size, 0, none⟩ = some (.slice (some ⟨b, off, none⟩) fs.length cap) := fun w' h => h.cellOf (boxed 0 rfl rfl)
  have hcell1 : ∀ w', Ext (w.alloc (.cells #[.slice (some ⟨b, off, none⟩) fs.length cap] 30)) w' → w'.cell? ⟨b, off + k * 3, none⟩ = some (.int .i64 (fx fs k).t) := fun w' h => h.cellOf (((Ext.refl _).alloc _).cellOf c0)
  have hcell2 : ∀ w', Ext (w.alloc (.cells #[.slice (some ⟨b, off, none⟩) fs.length cap] 30)) w' → w'.cell? ⟨b, off + (k + 1) * 3, none⟩ = some (.int .i64 (fx fs (k + 1)).t) := fun w' h => h.cellOf (((Ext.refl _).alloc _).cellOf d0)
  clear c0 d0 hb hf hok
  go_enter Tryz.func162, Tryz.ntmps162
  go_wp2_with fail
  refine wp_region_held_drew (S := (fun w' => Ext (w.alloc (.cells #[.slice (some ⟨b, off, none⟩) fs.length cap] 30)) w')) (by kernel_rfl) (by (try dsimp only); first | go_keep | exact (Ext.refl _).drew | exact Res.new2.drew | exact Res.new4.drew | exact ResB.drew (by assumption) | exact ResC.drew (by assumption) | assumption | exact Ext.drew (by assumption) | exact Res.drew (by assumption)) (fun hHeld => ?_)
  refine Ord.K 0 5 ?_
  refine Ord.K 1 6 ?_
  refine Ord.K 2 7 ?_
  refine Ord.K 3 8 ?_
  refine Ord.K 4 9 ?_
  refine Ord.K 5 10 ?_
  refine Ord.K 6 11 ?_
  refine Ord.K 7 12 ?_
  refine Ord.K 8 13 ?_
  refine Ord.K 9 14 ?_
  refine Ord.K 10 15 ?_
  refine Ord.K 11 16 ?_
  refine Ord.K 12 17 ?_
  refine Ord.K 13 18 ?_
  refine Ord.K 14 4 ?_
  refine wpAnyH_done (by kernel_rfl) ?_ _
  go_wp2
  go_ret
  exact ⟨rfl, ((Ext.refl _).alloc _).trans (by assumption)⟩
set_option maxHeartbeats 1000000 in
theorem leg_any (a : Option Addr) (cap : Nat) (fs : List F3) (k : Nat) (w : World) (hf : Fxs w a fs) (hk : k + 1 < fs.length) (hl : fs.length ≤ 1000000) :
    Calls Tryz.prog 158 #[Tr (.slice a fs.length cap), .int .i64 k] w fun e w' => e = .returned (Sg (fx fs k).x (fx fs k).y (fx fs (k + 1)).x (fx fs (k + 1)).y) ∧ Ext w w' := by
  rcases hf.2 with h | ⟨b, off, rfl, hb⟩
  · rw [h] at hk; simp at hk
  obtain ⟨c0, c1, c2⟩ := hb k (by omega)
  obtain ⟨d0, d1, d2⟩ := hb (k + 1) hk
  have i0 : (0 : Int) ≤ (k : Int) := by omega
  have i1 : (k : Int) < (fs.length : Int) := by omega
  have i2 : (0 : Int) ≤ (k : Int) + 1 := by omega
  have i3 : (k : Int) + 1 < (fs.length : Int) := by omega
  have T0 : IntKind.i64.wrap ((k : Int) + 1) = (k : Int) + 1 := wrap_succ (by omega)
  have T1 : ((k : Int) + 1).toNat = k + 1 := by omega
  generalize hW : w.alloc (.cells #[.slice (some ⟨b, off, none⟩) fs.length cap] 30) = W
  have hX : Ext w W := hW ▸ (Ext.refl w).alloc _
  have ec : ∀ w', Res W W.heap.size 4 w' → w'.cell? ⟨w.heap.size, 0, none⟩ = some (.slice (some ⟨b, off, none⟩) fs.length cap) := fun w' h => h.1.cellOf (hW ▸ boxed 0 rfl rfl)
  have ec0 : ∀ w', Res W W.heap.size 4 w' → w'.cell? ⟨b, off + k * 3, none⟩ = some (.int .i64 (fx fs k).t) := fun w' h => h.1.cellOf (hX.cellOf c0)
  have ec1 : ∀ w', Res W W.heap.size 4 w' → w'.cell? ⟨b, off + k * 3 + 1, none⟩ = some (.int .i64 (fx fs k).x) := fun w' h => h.1.cellOf (hX.cellOf c1)
  have ec2 : ∀ w', Res W W.heap.size 4 w' → w'.cell? ⟨b, off + k * 3 + 2, none⟩ = some (.int .i64 (fx fs k).y) := fun w' h => h.1.cellOf (hX.cellOf c2)
  have ed0 : ∀ w', Res W W.heap.size 4 w' → w'.cell? ⟨b, off + (k + 1) * 3, none⟩ = some (.int .i64 (fx fs (k + 1)).t) := fun w' h => h.1.cellOf (hX.cellOf d0)
  have ed1 : ∀ w', Res W W.heap.size 4 w' → w'.cell? ⟨b, off + (k + 1) * 3 + 1, none⟩ = some (.int .i64 (fx fs (k + 1)).x) := fun w' h => h.1.cellOf (hX.cellOf d1)
  have ed2 : ∀ w', Res W W.heap.size 4 w' → w'.cell? ⟨b, off + (k + 1) * 3 + 2, none⟩ = some (.int .i64 (fx fs (k + 1)).y) := fun w' h => h.1.cellOf (hX.cellOf d2)
  clear c0 c1 c2 d0 d1 d2 hb hf
  go_enter Tryz.func158, Tryz.ntmps158
  go_wp2_with fail
  refine wp_region_held_drew (S := (Res W W.heap.size 4)) (by kernel_rfl) (by (try dsimp only); first | go_keep | exact (Ext.refl _).drew | exact Res.new2.drew | exact Res.new4.drew | exact ResB.drew (by assumption) | exact ResC.drew (by assumption) | assumption | exact Ext.drew (by assumption) | exact Res.drew (by assumption)) (fun hHeld => ?_)
  refine Ord.K 0 5 ?_
  refine Ord.K 1 6 ?_
  refine Ord.K 2 7 ?_
  refine Ord.K 3 8 ?_
  refine Ord.K 4 9 ?_
  refine Ord.K 6 11 ?_
  refine Ord.K 7 12 ?_
  refine Ord.K 8 13 ?_
  refine Ord.K 9 14 ?_
  refine Ord.K 10 15 ?_
  refine Ord.K 11 16 ?_
  (refine wpAnyH_ready (rs := [5]) (by kernel_rfl) (by simp) ?_; refine AllReadyH.cons rfl (fun K hK => ?_) AllReadyH.nil; go_simp; (go_at_call 143; refine (point_impl _ _ _ _).mono ?_; rintro e w1 ⟨rfl, hy⟩); go_wp2_with fail; (refine hK.out _ _ (by first | assumption | exact Ext.trans (by assumption) hy | exact Res.ext (by assumption) hy | exact ResB.ext (by assumption) hy | exact ResC.ext (by assumption) hy | (go_split_ands; (repeat' apply And.intro) <;> exact Ext.cellOf hy (by assumption))) (fun hHeld => ?_)); clear hK K; (try simp only [Act.put, Ord.a, Ord.b, Ord.c]))
  (refine wpAnyH_ready (rs := [12]) (by kernel_rfl) (by simp) ?_; refine AllReadyH.cons rfl (fun K hK => ?_) AllReadyH.nil; go_simp; (go_at_call 143; refine (point_impl _ _ _ _).mono ?_; rintro e w1 ⟨rfl, hy⟩); go_wp2_with fail; (refine hK.out _ _ (by first | assumption | exact Ext.trans (by assumption) hy | exact Res.ext (by assumption) hy | exact ResB.ext (by assumption) hy | exact ResC.ext (by assumption) hy | (go_split_ands; (repeat' apply And.intro) <;> exact Ext.cellOf hy (by assumption))) (fun hHeld => ?_)); clear hK K; (try simp only [Act.put, Ord.a, Ord.b, Ord.c]))
  refine Ord.K 13 18 ?_
  (((first | refine Exists.elim (Res.four hHeld) (fun rx rh => ?_) | refine Exists.elim (Res.four hHeld.1) (fun rx rh => ?_)); refine Exists.elim rh (fun ry rh => ?_); refine Exists.elim rh (fun rz rh => ?_); refine Exists.elim rh (fun ru rb => ?_); have r0 := rb.four.1.1; have r1 := rb.four.1.2.1; have r2 := rb.four.1.2.2.1; have r3 := rb.four.1.2.2.2; have r4 := rb.four.2.1; have r5 := rb.four.2.2.1; have r6 := rb.four.2.2.2.1; have r7 := rb.four.2.2.2.2; clear rh); refine wpAnyH_ready (rs := [14]) (by kernel_rfl) (by simp) ?_; refine AllReadyH.cons rfl (fun K hK => ?_) AllReadyH.nil; go_simp; (refine hK.out _ _ (by with_reducible exact Res.set (Res.set (Res.set (Res.set hHeld _ _) _ _) _ _) _ _) (fun hHeld => ?_)); clear hK K; (try simp only [Act.put, Ord.a, Ord.b, Ord.c]))
  refine wpAnyH_done (by kernel_rfl) ?_ _
  go_wp2
  obtain ⟨⟨g0, g1, g2, g3⟩, _⟩ := (rb.set4 (a := .int .i64 (fx fs k).x) (b := .int .i64 (fx fs k).y) (c := .int .i64 (fx fs (k + 1)).x) (d := .int .i64 (fx fs (k + 1)).y)).four
  exact bodyPost_ret (v := Sg (fx fs k).x (fx fs k).y (fx fs (k + 1)).x (fx fs (k + 1)).y) (by simp [results, Tryz.results158, go_sem, g0, g1, g2, g3]) rfl ⟨rfl, hX.trans hHeld.1⟩
def hdX (fs : List F3) (k : Nat) : Int := (fx fs (k + 1)).x - (fx fs k).x
def hdY (fs : List F3) (k : Nat) : Int := (fx fs (k + 1)).y - (fx fs k).y
set_option maxHeartbeats 1000000 in
theorem heading_spec (a : Option Addr) (cap : Nat) (fs : List F3) (k : Nat) (w : World) (hf : Fxs w a fs) (hk : k + 1 < fs.length) (hv : trB fs = true) :
    Calls Tryz.prog 128 #[Tr (.slice a fs.length cap), .int .i64 k] w fun e w' => e = .returned (Pt (hdX fs k) (hdY fs k)) ∧ Ext w w' := by
  obtain ⟨⟨h2, h40⟩, hok⟩ := trB_yes hv
  rcases hf.2 with h | ⟨b, off, rfl, hb⟩
  · rw [h] at hk; simp at hk
  obtain ⟨c0, c1, c2⟩ := hb k (by omega)
  obtain ⟨d0, d1, d2⟩ := hb (k + 1) hk
  have B0 := Lib.hid (fxB_yes (okB_fx (hok k (by omega)))).2
  have B1 := Lib.hid (fxB_yes (okB_fx (hok (k + 1) hk))).2
  have i0 : (0 : Int) ≤ (k : Int) := by omega
  have i1 : (k : Int) < (fs.length : Int) := by omega
  have i2 : (0 : Int) ≤ (k : Int) + 1 := by omega
  have i3 : (k : Int) + 1 < (fs.length : Int) := by omega
  have T0 : IntKind.i64.wrap ((k : Int) + 1) = (k : Int) + 1 := wrap_succ (by omega)
  have T1 : ((k : Int) + 1).toNat = k + 1 := by omega
  generalize hW : w.alloc (.cells #[.slice (some ⟨b, off, none⟩) fs.length cap] 30) = W
  have hX : Ext w W := hW ▸ (Ext.refl w).alloc _
  have ec : ∀ w', Res W W.heap.size 2 w' → w'.cell? ⟨w.heap.size, 0, none⟩ = some (.slice (some ⟨b, off, none⟩) fs.length cap) := fun w' h => h.1.cellOf (hW ▸ boxed 0 rfl rfl)
  have ec0 : ∀ w', Res W W.heap.size 2 w' → w'.cell? ⟨b, off + k * 3, none⟩ = some (.int .i64 (fx fs k).t) := fun w' h => h.1.cellOf (hX.cellOf c0)
  have ec1 : ∀ w', Res W W.heap.size 2 w' → w'.cell? ⟨b, off + k * 3 + 1, none⟩ = some (.int .i64 (fx fs k).x) := fun w' h => h.1.cellOf (hX.cellOf c1)
  have ec2 : ∀ w', Res W W.heap.size 2 w' → w'.cell? ⟨b, off + k * 3 + 2, none⟩ = some (.int .i64 (fx fs k).y) := fun w' h => h.1.cellOf (hX.cellOf c2)
  have ed0 : ∀ w', Res W W.heap.size 2 w' → w'.cell? ⟨b, off + (k + 1) * 3, none⟩ = some (.int .i64 (fx fs (k + 1)).t) := fun w' h => h.1.cellOf (hX.cellOf d0)
  have ed1 : ∀ w', Res W W.heap.size 2 w' → w'.cell? ⟨b, off + (k + 1) * 3 + 1, none⟩ = some (.int .i64 (fx fs (k + 1)).x) := fun w' h => h.1.cellOf (hX.cellOf d1)
  have ed2 : ∀ w', Res W W.heap.size 2 w' → w'.cell? ⟨b, off + (k + 1) * 3 + 2, none⟩ = some (.int .i64 (fx fs (k + 1)).y) := fun w' h => h.1.cellOf (hX.cellOf d2)
  clear c0 c1 c2 d0 d1 d2 hb hf hok
  go_enter Tryz.func128, Tryz.ntmps128
  go_wp2_with fail
  refine wp_region_held_drew (S := (Res W W.heap.size 2)) (by kernel_rfl) (by (try dsimp only); first | go_keep | exact (Ext.refl _).drew | exact Res.new2.drew | exact Res.new4.drew | exact ResB.drew (by assumption) | exact ResC.drew (by assumption) | assumption | exact Ext.drew (by assumption) | exact Res.drew (by assumption)) (fun hHeld => ?_)
  refine Ord.K 0 5 ?_
  refine Ord.K 1 6 ?_
  refine Ord.K 2 7 ?_
  refine Ord.K 3 8 ?_
  refine Ord.K 4 9 ?_
  refine Ord.K 5 10 ?_
  refine Ord.K 7 12 ?_
  refine Ord.K 8 13 ?_
  refine Ord.K 9 14 ?_
  refine Ord.K 10 15 ?_
  refine Ord.K 11 16 ?_
  (refine wpAnyH_ready (rs := [6]) (by kernel_rfl) (by simp) ?_; refine AllReadyH.cons rfl (fun K hK => ?_) AllReadyH.nil; go_simp; (first | (go_at_call 78; refine (point_spec _ _ _ _).mono ?_; rintro e w1 ⟨rfl, hy⟩) | (go_at_call 137; refine (minus_any _ _ _ _ _ B1.out.1 B1.out.2 B0.out.1 B0.out.2).mono ?_; rintro e w1 ⟨rfl, hy⟩)); go_wp2_with fail; (refine hK.out _ _ (by first | assumption | exact Ext.trans (by assumption) hy | exact Res.ext (by assumption) hy | exact ResB.ext (by assumption) hy | exact ResC.ext (by assumption) hy | (go_split_ands; (repeat' apply And.intro) <;> exact Ext.cellOf hy (by assumption))) (fun hHeld => ?_)); clear hK K; (try simp only [Act.put, Ord.a, Ord.b, Ord.c]))
  (refine wpAnyH_ready (rs := [12]) (by kernel_rfl) (by simp) ?_; refine AllReadyH.cons rfl (fun K hK => ?_) AllReadyH.nil; go_simp; (first | (go_at_call 78; refine (point_spec _ _ _ _).mono ?_; rintro e w1 ⟨rfl, hy⟩) | (go_at_call 137; refine (minus_any _ _ _ _ _ B1.out.1 B1.out.2 B0.out.1 B0.out.2).mono ?_; rintro e w1 ⟨rfl, hy⟩)); go_wp2_with fail; (refine hK.out _ _ (by first | assumption | exact Ext.trans (by assumption) hy | exact Res.ext (by assumption) hy | exact ResB.ext (by assumption) hy | exact ResC.ext (by assumption) hy | (go_split_ands; (repeat' apply And.intro) <;> exact Ext.cellOf hy (by assumption))) (fun hHeld => ?_)); clear hK K; (try simp only [Act.put, Ord.a, Ord.b, Ord.c]))
  (refine wpAnyH_ready (rs := [13]) (by kernel_rfl) (by simp) ?_; refine AllReadyH.cons rfl (fun K hK => ?_) AllReadyH.nil; go_simp; (first | (go_at_call 78; refine (point_spec _ _ _ _).mono ?_; rintro e w1 ⟨rfl, hy⟩) | (go_at_call 137; refine (minus_any _ _ _ _ _ B1.out.1 B1.out.2 B0.out.1 B0.out.2).mono ?_; rintro e w1 ⟨rfl, hy⟩)); go_wp2_with fail; (refine hK.out _ _ (by first | assumption | exact Ext.trans (by assumption) hy | exact Res.ext (by assumption) hy | exact ResB.ext (by assumption) hy | exact ResC.ext (by assumption) hy | (go_split_ands; (repeat' apply And.intro) <;> exact Ext.cellOf hy (by assumption))) (fun hHeld => ?_)); clear hK K; (try simp only [Act.put, Ord.a, Ord.b, Ord.c]))
  (((first | refine Exists.elim (Res.two hHeld) (fun rx rh => ?_) | refine Exists.elim (ResC.two hHeld) (fun rx rh => ?_) | refine Exists.elim (Res.two hHeld.1) (fun rx rh => ?_)); refine Exists.elim rh (fun ry rb => ?_); have r0 := rb.two.1.1; have r1 := rb.two.1.2; have r2 := rb.two.2.1; have r3 := rb.two.2.2; clear rh); refine wpAnyH_ready (rs := [14]) (by kernel_rfl) (by simp) ?_; refine AllReadyH.cons rfl (fun K hK => ?_) AllReadyH.nil; go_simp; (refine hK.out _ _ (by with_reducible exact Res.set (Res.set hHeld _ _) _ _) (fun hHeld => ?_)); clear hK K; (try simp only [Act.put, Ord.a, Ord.b, Ord.c]))
  refine wpAnyH_done (by kernel_rfl) ?_ _
  go_wp2
  obtain ⟨⟨g0, g1⟩, _⟩ := (rb.set2 (u := .int .i64 (hdX fs k)) (v := .int .i64 (hdY fs k))).two
  exact bodyPost_ret (v := Pt (hdX fs k) (hdY fs k)) (by simp only [hdX, hdY] at g0 g1; simp [results, Tryz.results128, go_sem, g0, g1, hdX, hdY]) rfl ⟨rfl, hX.trans hHeld.1⟩
end Go.Proofs.YtknelhceaoblhaaGreat.Trk
