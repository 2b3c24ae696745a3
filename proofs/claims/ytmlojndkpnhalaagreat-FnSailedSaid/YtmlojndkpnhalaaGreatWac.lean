import Derived.Test.YtmlojndkpnhalaaGreatMPts
import Derived.Test.YtmlojndkpnhalaaGreatOrd
import Derived.Test.YtmlojndkpnhalaaGreatRel
namespace Go.Proofs.YtmlojndkpnhalaaGreat.Crs
open Go.ChangeShapes Go.WideShapes Go.ChangeAt Go.RowKit
open Go.Proofs.YtmlojndkpnhalaaGreat.Num Go.Proofs.YtmlojndkpnhalaaGreat.Kit Go.Proofs.YtmlojndkpnhalaaGreat.Pts Go.Proofs.YtmlojndkpnhalaaGreat.Seg
set_option linter.unusedVariables false
set_option linter.unusedSimpArgs false
def bhB (a b c d p q : Int) : Bool := decide (0 < crs a b c d p q)
def bsB (a b c d p q u v : Int) : Bool := decide (0 < sgn (crs p q u v a b) * sgn (crs p q u v c d))
def wyI (a b c d p q u v : Int) : Int := if bhB a b c d p q = bhB a b c d u v then 0 else if bsB a b c d p q u v = true then 0 else if bhB a b c d u v = true then 1 else -1
theorem hasBehind_any (a b c d p q : Int) (w : World) (ha : Co a) (hb : Co b) (hc : Co c) (hd : Co d) (hp : Co p) (hq : Co q) :
    Calls Tryz.prog 291 #[Sg a b c d, Pt p q] w fun e w' => e = .returned (.bool (bhB a b c d p q)) ∧ Ext w w' := by
  have H := Lib.hid (show bhB a b c d p q = decide (0 < crs a b c d p q) from rfl)
  go_enter Tryz.func291, Tryz.ntmps291
  go_wp2_with (go_at_call 263; refine (turnTo_any _ _ _ _ _ _ _ ha hb hc hd hp hq).mono ?_; rintro e w1 ⟨rfl, hx⟩)
  go_ret
  exact ⟨ret_bool H.out, (by repeat (first | exact Ext.refl _ | assumption | apply Ext.alloc | apply Ext.drew | (refine Ext.trans ?_ (by assumption)) | (refine Ext.setNew ?_ (by simp <;> omega) _)))⟩
theorem isBeside_any (a b c d p q u v : Int) (w : World) (ha : Co a) (hb : Co b) (hc : Co c) (hd : Co d) (hp : Co p) (hq : Co q) (hu : Co u) (hv : Co v) :
    Calls Tryz.prog 292 #[Sg a b c d, Sg p q u v] w fun e w' => e = .returned (.bool (bsB a b c d p q u v)) ∧ Ext w w' := by
  have H := Lib.hid (show bsB a b c d p q u v = decide (0 < sgn (crs p q u v a b) * sgn (crs p q u v c d)) from rfl)
  obtain ⟨m1, m2⟩ := mul_bd 1 1 (sgn_bd (crs p q u v a b)) (sgn_bd (crs p q u v c d))
  simp only [Int.reduceMul, Int.reduceNeg] at m1 m2
  have hw : IntKind.i64.wrap (sgn (crs p q u v a b) * sgn (crs p q u v c d)) = sgn (crs p q u v a b) * sgn (crs p q u v c d) := by rw [IntKind.wrap_i64]; omega
  have HT1 := Lib.hid (fun w' => turnTo_any p q u v a b w' hp hq hu hv ha hb)
  have HT2 := Lib.hid (fun w' => turnTo_any p q u v c d w' hp hq hu hv hc hd)
  obtain ⟨W0, hW0⟩ : ∃ W0, W0 = (w.alloc (.cells #[.int .i64 a, .int .i64 b, .int .i64 c, .int .i64 d] 27)).alloc (.cells #[.int .i64 p, .int .i64 q, .int .i64 u, .int .i64 v] 225) := ⟨_, rfl⟩
  have hX : Ext w W0 := hW0 ▸ ((Ext.refl w).alloc _).alloc _
  have cs : ∀ i x, (#[Value.int .i64 a, .int .i64 b, .int .i64 c, .int .i64 d] : Array Value)[i]? = some x → W0.cell? ⟨w.heap.size, i, none⟩ = some x := fun i x hv => by rw [hW0]; exact ((Ext.refl _).alloc _).cellOf (boxed i hv rfl)
  have cr : ∀ i x, (#[Value.int .i64 p, .int .i64 q, .int .i64 u, .int .i64 v] : Array Value)[i]? = some x → W0.cell? ⟨w.heap.size + 1, i, none⟩ = some x := fun i x hv => by rw [hW0]; exact boxed i hv (by simp)
  have e0 : ∀ w', Ext W0 w' → w'.cell? ⟨w.heap.size, 0, none⟩ = some (.int .i64 a) := fun w' h => h.cellOf (cs 0 _ rfl)
  have e1 : ∀ w', Ext W0 w' → w'.cell? ⟨w.heap.size, 1, none⟩ = some (.int .i64 b) := fun w' h => h.cellOf (cs 1 _ rfl)
  have e2 : ∀ w', Ext W0 w' → w'.cell? ⟨w.heap.size, 2, none⟩ = some (.int .i64 c) := fun w' h => h.cellOf (cs 2 _ rfl)
  have e3 : ∀ w', Ext W0 w' → w'.cell? ⟨w.heap.size, 3, none⟩ = some (.int .i64 d) := fun w' h => h.cellOf (cs 3 _ rfl)
  have e4 : ∀ w', Ext W0 w' → w'.cell? ⟨w.heap.size + 1, 0, none⟩ = some (.int .i64 p) := fun w' h => h.cellOf (cr 0 _ rfl)
  have e5 : ∀ w', Ext W0 w' → w'.cell? ⟨w.heap.size + 1, 1, none⟩ = some (.int .i64 q) := fun w' h => h.cellOf (cr 1 _ rfl)
  have e6 : ∀ w', Ext W0 w' → w'.cell? ⟨w.heap.size + 1, 2, none⟩ = some (.int .i64 u) := fun w' h => h.cellOf (cr 2 _ rfl)
  have e7 : ∀ w', Ext W0 w' → w'.cell? ⟨w.heap.size + 1, 3, none⟩ = some (.int .i64 v) := fun w' h => h.cellOf (cr 3 _ rfl)
  clear cs cr
  go_enter Tryz.func292, Tryz.ntmps292
  go_wp2_with fail
  rw [← hW0]
  clear hW0
  refine wp_region_held_drew (S := (fun w' => Ext W0 w')) (by kernel_rfl) (by (try dsimp only); first | go_keep | exact (Ext.refl _).drew | exact Res.new2.drew | exact Res.new4.drew | exact ResB.drew (by assumption) | exact ResC.drew (by assumption) | assumption | exact Ext.drew (by assumption) | exact Res.drew (by assumption)) (fun hHeld => ?_)
  refine Ord.K 0 5 ?_
  refine Ord.K 1 6 ?_
  refine Ord.K 2 7 ?_
  refine Ord.K 5 10 ?_
  refine Ord.K 6 11 ?_
  refine Ord.K 7 12 ?_
  (refine wpAnyH_ready (rs := [3]) (by kernel_rfl) (by simp) ?_; refine AllReadyH.cons rfl (fun K hK => ?_) AllReadyH.nil; go_simp; (first | (go_at_call 263; with_reducible refine (HT1.out _).mono ?_; rintro e w1 ⟨rfl, hy⟩) | (go_at_call 263; with_reducible refine (HT2.out _).mono ?_; rintro e w1 ⟨rfl, hy⟩) | (go_at_call 293; refine (signOf_any _ _).mono ?_; rintro e w1 ⟨rfl, rfl⟩; have hy := Ext.refl w1)); go_wp2_with fail; (refine hK.out _ _ (by first | assumption | exact Ext.trans (by assumption) hy | exact Res.ext (by assumption) hy | exact ResB.ext (by assumption) hy | exact ResC.ext (by assumption) hy | (go_split_ands; (repeat' apply And.intro) <;> exact Ext.cellOf hy (by assumption))) (fun hHeld => ?_)); clear hK K; (try simp only [Act.put, Ord.a, Ord.b, Ord.c]))
  (refine wpAnyH_ready (rs := [4]) (by kernel_rfl) (by simp) ?_; refine AllReadyH.cons rfl (fun K hK => ?_) AllReadyH.nil; go_simp; (first | (go_at_call 263; with_reducible refine (HT1.out _).mono ?_; rintro e w1 ⟨rfl, hy⟩) | (go_at_call 263; with_reducible refine (HT2.out _).mono ?_; rintro e w1 ⟨rfl, hy⟩) | (go_at_call 293; refine (signOf_any _ _).mono ?_; rintro e w1 ⟨rfl, rfl⟩; have hy := Ext.refl w1)); go_wp2_with fail; (refine hK.out _ _ (by first | assumption | exact Ext.trans (by assumption) hy | exact Res.ext (by assumption) hy | exact ResB.ext (by assumption) hy | exact ResC.ext (by assumption) hy | (go_split_ands; (repeat' apply And.intro) <;> exact Ext.cellOf hy (by assumption))) (fun hHeld => ?_)); clear hK K; (try simp only [Act.put, Ord.a, Ord.b, Ord.c]))
  (refine wpAnyH_ready (rs := [8]) (by kernel_rfl) (by simp) ?_; refine AllReadyH.cons rfl (fun K hK => ?_) AllReadyH.nil; go_simp; (first | (go_at_call 263; with_reducible refine (HT1.out _).mono ?_; rintro e w1 ⟨rfl, hy⟩) | (go_at_call 263; with_reducible refine (HT2.out _).mono ?_; rintro e w1 ⟨rfl, hy⟩) | (go_at_call 293; refine (signOf_any _ _).mono ?_; rintro e w1 ⟨rfl, rfl⟩; have hy := Ext.refl w1)); go_wp2_with fail; (refine hK.out _ _ (by first | assumption | exact Ext.trans (by assumption) hy | exact Res.ext (by assumption) hy | exact ResB.ext (by assumption) hy | exact ResC.ext (by assumption) hy | (go_split_ands; (repeat' apply And.intro) <;> exact Ext.cellOf hy (by assumption))) (fun hHeld => ?_)); clear hK K; (try simp only [Act.put, Ord.a, Ord.b, Ord.c]))
  (refine wpAnyH_ready (rs := [9]) (by kernel_rfl) (by simp) ?_; refine AllReadyH.cons rfl (fun K hK => ?_) AllReadyH.nil; go_simp; (first | (go_at_call 263; with_reducible refine (HT1.out _).mono ?_; rintro e w1 ⟨rfl, hy⟩) | (go_at_call 263; with_reducible refine (HT2.out _).mono ?_; rintro e w1 ⟨rfl, hy⟩) | (go_at_call 293; refine (signOf_any _ _).mono ?_; rintro e w1 ⟨rfl, rfl⟩; have hy := Ext.refl w1)); go_wp2_with fail; (refine hK.out _ _ (by first | assumption | exact Ext.trans (by assumption) hy | exact Res.ext (by assumption) hy | exact ResB.ext (by assumption) hy | exact ResC.ext (by assumption) hy | (go_split_ands; (repeat' apply And.intro) <;> exact Ext.cellOf hy (by assumption))) (fun hHeld => ?_)); clear hK K; (try simp only [Act.put, Ord.a, Ord.b, Ord.c]))
  refine Ord.K 10 15 ?_
  refine Ord.K 11 16 ?_
  refine Ord.K 12 4 ?_
  refine wpAnyH_done (by kernel_rfl) ?_ _
  go_wp2
  go_ret
  exact ⟨ret_bool H.out, hX.trans hHeld⟩
theorem wyI_same {a b c d p q u v : Int} (h : bhB a b c d p q = bhB a b c d u v) : wyI a b c d p q u v = 0 := if_pos h
theorem wyI_beside {a b c d p q u v : Int} (h : bsB a b c d p q u v = true) : wyI a b c d p q u v = 0 := by unfold wyI; split <;> simp [h]
theorem wyI_fwd {a b c d p q u v : Int} (h : bhB a b c d p q = false) (g : bhB a b c d u v = true) (k : bsB a b c d p q u v = false) : wyI a b c d p q u v = 1 := by unfold wyI; rw [h, g, k]; rfl
theorem wyI_bwd {a b c d p q u v : Int} (h : bhB a b c d p q = true) (g : bhB a b c d u v = false) (k : bsB a b c d p q u v = false) : wyI a b c d p q u v = -1 := by unfold wyI; rw [h, g, k]; rfl
set_option maxHeartbeats 2000000 in
theorem wayOf_any (a b c d p q u v : Int) (w : World) (ha : Co a) (hb : Co b) (hc : Co c) (hd : Co d) (hp : Co p) (hq : Co q) (hu : Co u) (hv : Co v) :
    Calls Tryz.prog 245 #[Sg a b c d, Sg p q u v] w fun e w' => e = .returned (.int .i64 (wyI a b c d p q u v)) ∧ Ext w w' := by
  have HB1 := Lib.hid (fun w' => hasBehind_any a b c d p q w' ha hb hc hd hp hq)
  have HB2 := Lib.hid (fun w' => hasBehind_any a b c d u v w' ha hb hc hd hu hv)
  have HBS := Lib.hid (fun w' => isBeside_any a b c d p q u v w' ha hb hc hd hp hq hu hv)
  obtain ⟨W0, hW0⟩ : ∃ W0, W0 = (w.alloc (.cells #[.int .i64 a, .int .i64 b, .int .i64 c, .int .i64 d] 27)).alloc (.cells #[.int .i64 p, .int .i64 q, .int .i64 u, .int .i64 v] 225) := ⟨_, rfl⟩
  have hX : Ext w W0 := hW0 ▸ ((Ext.refl w).alloc _).alloc _
  have cs : ∀ i x, (#[Value.int .i64 a, .int .i64 b, .int .i64 c, .int .i64 d] : Array Value)[i]? = some x → W0.cell? ⟨w.heap.size, i, none⟩ = some x := fun i x hv => by rw [hW0]; exact ((Ext.refl _).alloc _).cellOf (boxed i hv rfl)
  have cr : ∀ i x, (#[Value.int .i64 p, .int .i64 q, .int .i64 u, .int .i64 v] : Array Value)[i]? = some x → W0.cell? ⟨w.heap.size + 1, i, none⟩ = some x := fun i x hv => by rw [hW0]; exact boxed i hv (by simp)
  have e0 : ∀ w', Ext W0 w' → w'.cell? ⟨w.heap.size, 0, none⟩ = some (.int .i64 a) := fun w' h => h.cellOf (cs 0 _ rfl)
  have e1 : ∀ w', Ext W0 w' → w'.cell? ⟨w.heap.size, 1, none⟩ = some (.int .i64 b) := fun w' h => h.cellOf (cs 1 _ rfl)
  have e2 : ∀ w', Ext W0 w' → w'.cell? ⟨w.heap.size, 2, none⟩ = some (.int .i64 c) := fun w' h => h.cellOf (cs 2 _ rfl)
  have e3 : ∀ w', Ext W0 w' → w'.cell? ⟨w.heap.size, 3, none⟩ = some (.int .i64 d) := fun w' h => h.cellOf (cs 3 _ rfl)
  have e4 : ∀ w', Ext W0 w' → w'.cell? ⟨w.heap.size + 1, 0, none⟩ = some (.int .i64 p) := fun w' h => h.cellOf (cr 0 _ rfl)
  have e5 : ∀ w', Ext W0 w' → w'.cell? ⟨w.heap.size + 1, 1, none⟩ = some (.int .i64 q) := fun w' h => h.cellOf (cr 1 _ rfl)
  have e6 : ∀ w', Ext W0 w' → w'.cell? ⟨w.heap.size + 1, 2, none⟩ = some (.int .i64 u) := fun w' h => h.cellOf (cr 2 _ rfl)
  have e7 : ∀ w', Ext W0 w' → w'.cell? ⟨w.heap.size + 1, 3, none⟩ = some (.int .i64 v) := fun w' h => h.cellOf (cr 3 _ rfl)
  clear cs cr
  go_enter Tryz.func245, Tryz.ntmps245
  go_wp2_with fail
  rw [← hW0]
  clear hW0
  refine wp_region_held_drew (S := (fun w' => Ext W0 w')) (by kernel_rfl) (by (try dsimp only); first | go_keep | exact (Ext.refl _).drew | exact Res.new2.drew | exact Res.new4.drew | exact ResB.drew (by assumption) | exact ResC.drew (by assumption) | assumption | exact Ext.drew (by assumption) | exact Res.drew (by assumption)) (fun hHeld => ?_)
  refine Ord.K 0 7 ?_
  refine Ord.K 1 8 ?_
  refine Ord.K 2 9 ?_
  refine Ord.K 4 11 ?_
  refine Ord.K 5 12 ?_
  refine Ord.K 6 13 ?_
  (refine wpAnyH_ready (rs := [3]) (by kernel_rfl) (by simp) ?_; refine AllReadyH.cons rfl (fun K hK => ?_) AllReadyH.nil; go_simp; (first | (go_at_call 291; with_reducible refine (HB1.out _).mono ?_; rintro e w1 ⟨rfl, hy⟩) | (go_at_call 291; with_reducible refine (HB2.out _).mono ?_; rintro e w1 ⟨rfl, hy⟩)); go_wp2_with fail; (refine hK.out _ _ (by first | assumption | exact Ext.trans (by assumption) hy | exact Res.ext (by assumption) hy | exact ResB.ext (by assumption) hy | exact ResC.ext (by assumption) hy | (go_split_ands; (repeat' apply And.intro) <;> exact Ext.cellOf hy (by assumption))) (fun hHeld => ?_)); clear hK K; (try simp only [Act.put, Ord.a, Ord.b, Ord.c]))
  (refine wpAnyH_ready (rs := [7]) (by kernel_rfl) (by simp) ?_; refine AllReadyH.cons rfl (fun K hK => ?_) AllReadyH.nil; go_simp; (first | (go_at_call 291; with_reducible refine (HB1.out _).mono ?_; rintro e w1 ⟨rfl, hy⟩) | (go_at_call 291; with_reducible refine (HB2.out _).mono ?_; rintro e w1 ⟨rfl, hy⟩)); go_wp2_with fail; (refine hK.out _ _ (by first | assumption | exact Ext.trans (by assumption) hy | exact Res.ext (by assumption) hy | exact ResB.ext (by assumption) hy | exact ResC.ext (by assumption) hy | (go_split_ands; (repeat' apply And.intro) <;> exact Ext.cellOf hy (by assumption))) (fun hHeld => ?_)); clear hK K; (try simp only [Act.put, Ord.a, Ord.b, Ord.c]))
  refine Ord.K 8 5 ?_
  refine Ord.K 9 6 ?_
  refine wpAnyH_done (by kernel_rfl) ?_ _
  cases h1 : bhB a b c d p q <;> cases h2 : bhB a b c d u v
  · have H := Lib.hid (wyI_same (h1.trans h2.symm))
    clear h1 h2
    go_wp2
    go_ret
    exact ⟨ret_int H.out, hX.trans hHeld⟩
  · cases h3 : bsB a b c d p q u v
    · have H := Lib.hid (wyI_fwd h1 h2 h3)
      replace HBS := Lib.hid (fun w' => h3 ▸ HBS.out w')
      clear h1 h2 h3
      go_wp2_with (go_at_call 292; refine (HBS.out _).mono ?_; rintro e w3 ⟨rfl, hz⟩)
      go_ret
      exact ⟨ret_int H.out, hX.trans (hHeld.trans (by repeat (first | exact Ext.refl _ | assumption | apply Ext.alloc | apply Ext.drew | (refine Ext.trans ?_ (by assumption)) | (refine Ext.setNew ?_ (by simp <;> omega) _))))⟩
    · have H := Lib.hid (wyI_beside h3)
      replace HBS := Lib.hid (fun w' => h3 ▸ HBS.out w')
      clear h1 h2 h3
      go_wp2_with (go_at_call 292; refine (HBS.out _).mono ?_; rintro e w3 ⟨rfl, hz⟩)
      go_ret
      exact ⟨ret_int H.out, hX.trans (hHeld.trans (by repeat (first | exact Ext.refl _ | assumption | apply Ext.alloc | apply Ext.drew | (refine Ext.trans ?_ (by assumption)) | (refine Ext.setNew ?_ (by simp <;> omega) _))))⟩
  · cases h3 : bsB a b c d p q u v
    · have H := Lib.hid (wyI_bwd h1 h2 h3)
      replace HBS := Lib.hid (fun w' => h3 ▸ HBS.out w')
      clear h1 h2 h3
      go_wp2_with (go_at_call 292; refine (HBS.out _).mono ?_; rintro e w3 ⟨rfl, hz⟩)
      go_ret
      exact ⟨ret_int H.out, hX.trans (hHeld.trans (by repeat (first | exact Ext.refl _ | assumption | apply Ext.alloc | apply Ext.drew | (refine Ext.trans ?_ (by assumption)) | (refine Ext.setNew ?_ (by simp <;> omega) _))))⟩
    · have H := Lib.hid (wyI_beside h3)
      replace HBS := Lib.hid (fun w' => h3 ▸ HBS.out w')
      clear h1 h2 h3
      go_wp2_with (go_at_call 292; refine (HBS.out _).mono ?_; rintro e w3 ⟨rfl, hz⟩)
      go_ret
      exact ⟨ret_int H.out, hX.trans (hHeld.trans (by repeat (first | exact Ext.refl _ | assumption | apply Ext.alloc | apply Ext.drew | (refine Ext.trans ?_ (by assumption)) | (refine Ext.setNew ?_ (by simp <;> omega) _))))⟩
  · have H := Lib.hid (wyI_same (h1.trans h2.symm))
    clear h1 h2
    go_wp2
    go_ret
    exact ⟨ret_int H.out, hX.trans hHeld⟩
theorem before5_any (a b c d p q : Int) (w : World) (ha : Co a) (hb : Co b) (hc : Co c) (hd : Co d) (hp : Co p) (hq : Co q) :
    Calls Tryz.prog 284 #[Sg a b c d, Pt p q] w fun e w' => e = .returned (.bool (!bhB a b c d p q)) ∧ Ext w w' := by
  have H := Lib.hid (show (!bhB a b c d p q) = decide (trn a b c d p q ≤ 0) by
    rw [show trn a b c d p q = sgn (crs a b c d p q) from rfl]
    unfold bhB sgn
    by_cases h : crs a b c d p q < 0
    · rw [if_pos h, decide_eq_false (by omega : ¬ 0 < crs a b c d p q)]; rfl
    · rw [if_neg h]
      by_cases g : 0 < crs a b c d p q
      · rw [if_pos g, decide_eq_true g]; rfl
      · rw [if_neg g, decide_eq_false g]; rfl)
  go_enter Tryz.func284, Tryz.ntmps284
  go_wp2_with (go_at_call 314; refine (before_spec _ _ _ _ _ _ _ ha hb hc hd hp hq).mono ?_; rintro e w1 ⟨rfl, hx⟩)
  go_ret
  exact ⟨ret_bool H.out, (by repeat (first | exact Ext.refl _ | assumption | apply Ext.alloc | apply Ext.drew | (refine Ext.trans ?_ (by assumption)) | (refine Ext.setNew ?_ (by simp <;> omega) _)))⟩
set_option maxHeartbeats 2000000 in
theorem way_spec (a b c d p q u v : Int) (w : World) (ha : Co a) (hb : Co b) (hc : Co c) (hd : Co d) (hp : Co p) (hq : Co q) (hu : Co u) (hv : Co v) :
    Calls Tryz.prog 238 #[Sg a b c d, Pt p q, Pt u v] w fun e w' => e = .returned (.int .i64 (wyI a b c d p q u v)) ∧ Ext w w' := by
  have HT1 := Lib.hid (fun w' => turn_any p q u v a b w' hp hq hu hv ha hb)
  have HT2 := Lib.hid (fun w' => turn_any p q u v c d w' hp hq hu hv hc hd)
  obtain ⟨m1, m2⟩ := mul_bd 1 1 (sgn_bd (crs p q u v a b)) (sgn_bd (crs p q u v c d))
  simp only [Int.reduceMul, Int.reduceNeg] at m1 m2
  have hw : IntKind.i64.wrap (trn p q u v a b * trn p q u v c d) = trn p q u v a b * trn p q u v c d := by
    rw [show trn p q u v a b = sgn (crs p q u v a b) from rfl, show trn p q u v c d = sgn (crs p q u v c d) from rfl, IntKind.wrap_i64]; omega
  obtain ⟨W0, hW0⟩ : ∃ W0, W0 = ((w.alloc (.cells #[.int .i64 a, .int .i64 b, .int .i64 c, .int .i64 d] 27)).alloc (.cells #[.int .i64 p, .int .i64 q] 25)).alloc (.cells #[.int .i64 u, .int .i64 v] 25) := ⟨_, rfl⟩
  have hX : Ext w W0 := hW0 ▸ (((Ext.refl w).alloc _).alloc _).alloc _
  have cs : ∀ i x, (#[Value.int .i64 a, .int .i64 b, .int .i64 c, .int .i64 d] : Array Value)[i]? = some x → W0.cell? ⟨w.heap.size, i, none⟩ = some x := fun i x hv => by rw [hW0]; exact (((Ext.refl _).alloc _).alloc _).cellOf (boxed i hv rfl)
  have cr : ∀ i x, (#[Value.int .i64 p, .int .i64 q] : Array Value)[i]? = some x → W0.cell? ⟨w.heap.size + 1, i, none⟩ = some x := fun i x hv => by rw [hW0]; exact ((Ext.refl _).alloc _).cellOf (boxed i hv (by simp))
  have ct : ∀ i x, (#[Value.int .i64 u, .int .i64 v] : Array Value)[i]? = some x → W0.cell? ⟨w.heap.size + 1 + 1, i, none⟩ = some x := fun i x hv => by rw [hW0]; exact boxed i hv (by simp)
  have e0 : ∀ w', Ext W0 w' → w'.cell? ⟨w.heap.size, 0, none⟩ = some (.int .i64 a) := fun w' h => h.cellOf (cs 0 _ rfl)
  have e1 : ∀ w', Ext W0 w' → w'.cell? ⟨w.heap.size, 1, none⟩ = some (.int .i64 b) := fun w' h => h.cellOf (cs 1 _ rfl)
  have e2 : ∀ w', Ext W0 w' → w'.cell? ⟨w.heap.size, 2, none⟩ = some (.int .i64 c) := fun w' h => h.cellOf (cs 2 _ rfl)
  have e3 : ∀ w', Ext W0 w' → w'.cell? ⟨w.heap.size, 3, none⟩ = some (.int .i64 d) := fun w' h => h.cellOf (cs 3 _ rfl)
  have e4 : ∀ w', Ext W0 w' → w'.cell? ⟨w.heap.size + 1, 0, none⟩ = some (.int .i64 p) := fun w' h => h.cellOf (cr 0 _ rfl)
  have e5 : ∀ w', Ext W0 w' → w'.cell? ⟨w.heap.size + 1, 1, none⟩ = some (.int .i64 q) := fun w' h => h.cellOf (cr 1 _ rfl)
  have e6 : ∀ w', Ext W0 w' → w'.cell? ⟨w.heap.size + 1 + 1, 0, none⟩ = some (.int .i64 u) := fun w' h => h.cellOf (ct 0 _ rfl)
  have e7 : ∀ w', Ext W0 w' → w'.cell? ⟨w.heap.size + 1 + 1, 1, none⟩ = some (.int .i64 v) := fun w' h => h.cellOf (ct 1 _ rfl)
  clear cs cr ct
  cases h1 : bhB a b c d p q <;> cases h2 : bhB a b c d u v
  · have HB1 := Lib.hid (fun w' => h1 ▸ before5_any a b c d p q w' ha hb hc hd hp hq)
    have HB2 := Lib.hid (fun w' => h2 ▸ before5_any a b c d u v w' ha hb hc hd hu hv)
    have H := Lib.hid (wyI_same (h1.trans h2.symm))
    clear h1 h2
    go_enter Tryz.func238, Tryz.ntmps238
    go_wp2_with fail
    rw [← hW0]
    clear hW0
    refine wp_region_held_drew (S := (fun w' => Ext W0 w')) (by kernel_rfl) (by (try dsimp only); first | go_keep | exact (Ext.refl _).drew | exact Res.new2.drew | exact Res.new4.drew | exact ResB.drew (by assumption) | exact ResC.drew (by assumption) | assumption | exact Ext.drew (by assumption) | exact Res.drew (by assumption)) (fun hHeld => ?_)
    refine Ord.K 0 7 ?_
    refine Ord.K 1 8 ?_
    refine Ord.K 3 10 ?_
    refine Ord.K 4 11 ?_
    (refine wpAnyH_ready (rs := [2]) (by kernel_rfl) (by simp) ?_; refine AllReadyH.cons rfl (fun K hK => ?_) AllReadyH.nil; go_simp; (first | (go_at_call 284; with_reducible refine (HB1.out _).mono ?_; rintro e w1 ⟨rfl, hy⟩) | (go_at_call 284; with_reducible refine (HB2.out _).mono ?_; rintro e w1 ⟨rfl, hy⟩) | (go_at_call 285; with_reducible refine (HT1.out _).mono ?_; rintro e w1 ⟨rfl, hy⟩) | (go_at_call 285; with_reducible refine (HT2.out _).mono ?_; rintro e w1 ⟨rfl, hy⟩)); go_wp2_with fail; (refine hK.out _ _ (by first | assumption | exact Ext.trans (by assumption) hy | exact Res.ext (by assumption) hy | exact ResB.ext (by assumption) hy | exact ResC.ext (by assumption) hy | (go_split_ands; (repeat' apply And.intro) <;> exact Ext.cellOf hy (by assumption))) (fun hHeld => ?_)); clear hK K; (try simp only [Act.put, Ord.a, Ord.b, Ord.c]))
    (refine wpAnyH_ready (rs := [5]) (by kernel_rfl) (by simp) ?_; refine AllReadyH.cons rfl (fun K hK => ?_) AllReadyH.nil; go_simp; (first | (go_at_call 284; with_reducible refine (HB1.out _).mono ?_; rintro e w1 ⟨rfl, hy⟩) | (go_at_call 284; with_reducible refine (HB2.out _).mono ?_; rintro e w1 ⟨rfl, hy⟩) | (go_at_call 285; with_reducible refine (HT1.out _).mono ?_; rintro e w1 ⟨rfl, hy⟩) | (go_at_call 285; with_reducible refine (HT2.out _).mono ?_; rintro e w1 ⟨rfl, hy⟩)); go_wp2_with fail; (refine hK.out _ _ (by first | assumption | exact Ext.trans (by assumption) hy | exact Res.ext (by assumption) hy | exact ResB.ext (by assumption) hy | exact ResC.ext (by assumption) hy | (go_split_ands; (repeat' apply And.intro) <;> exact Ext.cellOf hy (by assumption))) (fun hHeld => ?_)); clear hK K; (try simp only [Act.put, Ord.a, Ord.b, Ord.c]))
    refine Ord.K 6 13 ?_
    refine Ord.K 7 14 ?_
    (refine Ord.s 8 15 ?_ ?_; rfl; (try simp only [Act.put, Ord.a, Ord.b, Ord.c]))
    (refine Ord.s 9 16 ?_ ?_; rfl; (try simp only [Act.put, Ord.a, Ord.b, Ord.c]))
    (refine Ord.s 10 17 ?_ ?_; rfl; (try simp only [Act.put, Ord.a, Ord.b, Ord.c]))
    (refine Ord.s 11 18 ?_ ?_; rfl; (try simp only [Act.put, Ord.a, Ord.b, Ord.c]))
    (refine Ord.s 13 20 ?_ ?_; rfl; (try simp only [Act.put, Ord.a, Ord.b, Ord.c]))
    (refine Ord.s 14 21 ?_ ?_; rfl; (try simp only [Act.put, Ord.a, Ord.b, Ord.c]))
    (refine Ord.s 15 22 ?_ ?_; rfl; (try simp only [Act.put, Ord.a, Ord.b, Ord.c]))
    (refine Ord.s 16 23 ?_ ?_; rfl; (try simp only [Act.put, Ord.a, Ord.b, Ord.c]))
    (refine Ord.s 12 19 ?_ ?_; rfl; (try simp only [Act.put, Ord.a, Ord.b, Ord.c]))
    (refine Ord.s 17 24 ?_ ?_; rfl; (try simp only [Act.put, Ord.a, Ord.b, Ord.c]))
    (refine Ord.s 18 25 ?_ ?_; rfl; (try simp only [Act.put, Ord.a, Ord.b, Ord.c]))
    (refine Ord.s 19 26 ?_ ?_; rfl; (try simp only [Act.put, Ord.a, Ord.b, Ord.c]))
    refine Ord.K 20 27 ?_
    refine wpAnyH_done (by kernel_rfl) ?_ _
    go_wp2
    go_ret
    exact ⟨ret_int H.out, hX.trans (hHeld.trans (by repeat (first | exact Ext.refl _ | assumption | apply Ext.alloc | apply Ext.drew | (refine Ext.trans ?_ (by assumption)) | (refine Ext.setNew ?_ (by simp <;> omega) _))))⟩
  · have HB1 := Lib.hid (fun w' => h1 ▸ before5_any a b c d p q w' ha hb hc hd hp hq)
    have HB2 := Lib.hid (fun w' => h2 ▸ before5_any a b c d u v w' ha hb hc hd hu hv)
    by_cases h3 : 0 < trn p q u v a b * trn p q u v c d
    · have H := Lib.hid (wyI_beside (show bsB a b c d p q u v = true from decide_eq_true h3))
      clear h1 h2
      go_enter Tryz.func238, Tryz.ntmps238
      go_wp2_with fail
      rw [← hW0]
      clear hW0
      refine wp_region_held_drew (S := (fun w' => Ext W0 w')) (by kernel_rfl) (by (try dsimp only); first | go_keep | exact (Ext.refl _).drew | exact Res.new2.drew | exact Res.new4.drew | exact ResB.drew (by assumption) | exact ResC.drew (by assumption) | assumption | exact Ext.drew (by assumption) | exact Res.drew (by assumption)) (fun hHeld => ?_)
      refine Ord.K 0 7 ?_
      refine Ord.K 1 8 ?_
      refine Ord.K 3 10 ?_
      refine Ord.K 4 11 ?_
      (refine wpAnyH_ready (rs := [2]) (by kernel_rfl) (by simp) ?_; refine AllReadyH.cons rfl (fun K hK => ?_) AllReadyH.nil; go_simp; (first | (go_at_call 284; with_reducible refine (HB1.out _).mono ?_; rintro e w1 ⟨rfl, hy⟩) | (go_at_call 284; with_reducible refine (HB2.out _).mono ?_; rintro e w1 ⟨rfl, hy⟩) | (go_at_call 285; with_reducible refine (HT1.out _).mono ?_; rintro e w1 ⟨rfl, hy⟩) | (go_at_call 285; with_reducible refine (HT2.out _).mono ?_; rintro e w1 ⟨rfl, hy⟩)); go_wp2_with fail; (refine hK.out _ _ (by first | assumption | exact Ext.trans (by assumption) hy | exact Res.ext (by assumption) hy | exact ResB.ext (by assumption) hy | exact ResC.ext (by assumption) hy | (go_split_ands; (repeat' apply And.intro) <;> exact Ext.cellOf hy (by assumption))) (fun hHeld => ?_)); clear hK K; (try simp only [Act.put, Ord.a, Ord.b, Ord.c]))
      (refine wpAnyH_ready (rs := [5]) (by kernel_rfl) (by simp) ?_; refine AllReadyH.cons rfl (fun K hK => ?_) AllReadyH.nil; go_simp; (first | (go_at_call 284; with_reducible refine (HB1.out _).mono ?_; rintro e w1 ⟨rfl, hy⟩) | (go_at_call 284; with_reducible refine (HB2.out _).mono ?_; rintro e w1 ⟨rfl, hy⟩) | (go_at_call 285; with_reducible refine (HT1.out _).mono ?_; rintro e w1 ⟨rfl, hy⟩) | (go_at_call 285; with_reducible refine (HT2.out _).mono ?_; rintro e w1 ⟨rfl, hy⟩)); go_wp2_with fail; (refine hK.out _ _ (by first | assumption | exact Ext.trans (by assumption) hy | exact Res.ext (by assumption) hy | exact ResB.ext (by assumption) hy | exact ResC.ext (by assumption) hy | (go_split_ands; (repeat' apply And.intro) <;> exact Ext.cellOf hy (by assumption))) (fun hHeld => ?_)); clear hK K; (try simp only [Act.put, Ord.a, Ord.b, Ord.c]))
      refine Ord.K 6 13 ?_
      refine Ord.K 7 14 ?_
      refine Ord.K 8 15 ?_
      refine Ord.K 9 16 ?_
      refine Ord.K 10 17 ?_
      refine Ord.K 11 18 ?_
      refine Ord.K 13 20 ?_
      refine Ord.K 14 21 ?_
      refine Ord.K 15 22 ?_
      refine Ord.K 16 23 ?_
      (refine wpAnyH_ready (rs := [12]) (by kernel_rfl) (by simp) ?_; refine AllReadyH.cons rfl (fun K hK => ?_) AllReadyH.nil; go_simp; (first | (go_at_call 284; with_reducible refine (HB1.out _).mono ?_; rintro e w1 ⟨rfl, hy⟩) | (go_at_call 284; with_reducible refine (HB2.out _).mono ?_; rintro e w1 ⟨rfl, hy⟩) | (go_at_call 285; with_reducible refine (HT1.out _).mono ?_; rintro e w1 ⟨rfl, hy⟩) | (go_at_call 285; with_reducible refine (HT2.out _).mono ?_; rintro e w1 ⟨rfl, hy⟩)); go_wp2_with fail; (refine hK.out _ _ (by first | assumption | exact Ext.trans (by assumption) hy | exact Res.ext (by assumption) hy | exact ResB.ext (by assumption) hy | exact ResC.ext (by assumption) hy | (go_split_ands; (repeat' apply And.intro) <;> exact Ext.cellOf hy (by assumption))) (fun hHeld => ?_)); clear hK K; (try simp only [Act.put, Ord.a, Ord.b, Ord.c]))
      (refine wpAnyH_ready (rs := [17]) (by kernel_rfl) (by simp) ?_; refine AllReadyH.cons rfl (fun K hK => ?_) AllReadyH.nil; go_simp; (first | (go_at_call 284; with_reducible refine (HB1.out _).mono ?_; rintro e w1 ⟨rfl, hy⟩) | (go_at_call 284; with_reducible refine (HB2.out _).mono ?_; rintro e w1 ⟨rfl, hy⟩) | (go_at_call 285; with_reducible refine (HT1.out _).mono ?_; rintro e w1 ⟨rfl, hy⟩) | (go_at_call 285; with_reducible refine (HT2.out _).mono ?_; rintro e w1 ⟨rfl, hy⟩)); go_wp2_with fail; (refine hK.out _ _ (by first | assumption | exact Ext.trans (by assumption) hy | exact Res.ext (by assumption) hy | exact ResB.ext (by assumption) hy | exact ResC.ext (by assumption) hy | (go_split_ands; (repeat' apply And.intro) <;> exact Ext.cellOf hy (by assumption))) (fun hHeld => ?_)); clear hK K; (try simp only [Act.put, Ord.a, Ord.b, Ord.c]))
      refine Ord.K 18 25 ?_
      refine Ord.K 19 26 ?_
      refine Ord.K 20 27 ?_
      refine wpAnyH_done (by kernel_rfl) ?_ _
      go_wp2
      go_ret
      exact ⟨ret_int H.out, hX.trans (hHeld.trans (by repeat (first | exact Ext.refl _ | assumption | apply Ext.alloc | apply Ext.drew | (refine Ext.trans ?_ (by assumption)) | (refine Ext.setNew ?_ (by simp <;> omega) _))))⟩
    · have H := Lib.hid (wyI_fwd h1 h2 (show bsB a b c d p q u v = false from decide_eq_false h3))
      clear h1 h2
      go_enter Tryz.func238, Tryz.ntmps238
      go_wp2_with fail
      rw [← hW0]
      clear hW0
      refine wp_region_held_drew (S := (fun w' => Ext W0 w')) (by kernel_rfl) (by (try dsimp only); first | go_keep | exact (Ext.refl _).drew | exact Res.new2.drew | exact Res.new4.drew | exact ResB.drew (by assumption) | exact ResC.drew (by assumption) | assumption | exact Ext.drew (by assumption) | exact Res.drew (by assumption)) (fun hHeld => ?_)
      refine Ord.K 0 7 ?_
      refine Ord.K 1 8 ?_
      refine Ord.K 3 10 ?_
      refine Ord.K 4 11 ?_
      (refine wpAnyH_ready (rs := [2]) (by kernel_rfl) (by simp) ?_; refine AllReadyH.cons rfl (fun K hK => ?_) AllReadyH.nil; go_simp; (first | (go_at_call 284; with_reducible refine (HB1.out _).mono ?_; rintro e w1 ⟨rfl, hy⟩) | (go_at_call 284; with_reducible refine (HB2.out _).mono ?_; rintro e w1 ⟨rfl, hy⟩) | (go_at_call 285; with_reducible refine (HT1.out _).mono ?_; rintro e w1 ⟨rfl, hy⟩) | (go_at_call 285; with_reducible refine (HT2.out _).mono ?_; rintro e w1 ⟨rfl, hy⟩)); go_wp2_with fail; (refine hK.out _ _ (by first | assumption | exact Ext.trans (by assumption) hy | exact Res.ext (by assumption) hy | exact ResB.ext (by assumption) hy | exact ResC.ext (by assumption) hy | (go_split_ands; (repeat' apply And.intro) <;> exact Ext.cellOf hy (by assumption))) (fun hHeld => ?_)); clear hK K; (try simp only [Act.put, Ord.a, Ord.b, Ord.c]))
      (refine wpAnyH_ready (rs := [5]) (by kernel_rfl) (by simp) ?_; refine AllReadyH.cons rfl (fun K hK => ?_) AllReadyH.nil; go_simp; (first | (go_at_call 284; with_reducible refine (HB1.out _).mono ?_; rintro e w1 ⟨rfl, hy⟩) | (go_at_call 284; with_reducible refine (HB2.out _).mono ?_; rintro e w1 ⟨rfl, hy⟩) | (go_at_call 285; with_reducible refine (HT1.out _).mono ?_; rintro e w1 ⟨rfl, hy⟩) | (go_at_call 285; with_reducible refine (HT2.out _).mono ?_; rintro e w1 ⟨rfl, hy⟩)); go_wp2_with fail; (refine hK.out _ _ (by first | assumption | exact Ext.trans (by assumption) hy | exact Res.ext (by assumption) hy | exact ResB.ext (by assumption) hy | exact ResC.ext (by assumption) hy | (go_split_ands; (repeat' apply And.intro) <;> exact Ext.cellOf hy (by assumption))) (fun hHeld => ?_)); clear hK K; (try simp only [Act.put, Ord.a, Ord.b, Ord.c]))
      refine Ord.K 6 13 ?_
      refine Ord.K 7 14 ?_
      refine Ord.K 8 15 ?_
      refine Ord.K 9 16 ?_
      refine Ord.K 10 17 ?_
      refine Ord.K 11 18 ?_
      refine Ord.K 13 20 ?_
      refine Ord.K 14 21 ?_
      refine Ord.K 15 22 ?_
      refine Ord.K 16 23 ?_
      (refine wpAnyH_ready (rs := [12]) (by kernel_rfl) (by simp) ?_; refine AllReadyH.cons rfl (fun K hK => ?_) AllReadyH.nil; go_simp; (first | (go_at_call 284; with_reducible refine (HB1.out _).mono ?_; rintro e w1 ⟨rfl, hy⟩) | (go_at_call 284; with_reducible refine (HB2.out _).mono ?_; rintro e w1 ⟨rfl, hy⟩) | (go_at_call 285; with_reducible refine (HT1.out _).mono ?_; rintro e w1 ⟨rfl, hy⟩) | (go_at_call 285; with_reducible refine (HT2.out _).mono ?_; rintro e w1 ⟨rfl, hy⟩)); go_wp2_with fail; (refine hK.out _ _ (by first | assumption | exact Ext.trans (by assumption) hy | exact Res.ext (by assumption) hy | exact ResB.ext (by assumption) hy | exact ResC.ext (by assumption) hy | (go_split_ands; (repeat' apply And.intro) <;> exact Ext.cellOf hy (by assumption))) (fun hHeld => ?_)); clear hK K; (try simp only [Act.put, Ord.a, Ord.b, Ord.c]))
      (refine wpAnyH_ready (rs := [17]) (by kernel_rfl) (by simp) ?_; refine AllReadyH.cons rfl (fun K hK => ?_) AllReadyH.nil; go_simp; (first | (go_at_call 284; with_reducible refine (HB1.out _).mono ?_; rintro e w1 ⟨rfl, hy⟩) | (go_at_call 284; with_reducible refine (HB2.out _).mono ?_; rintro e w1 ⟨rfl, hy⟩) | (go_at_call 285; with_reducible refine (HT1.out _).mono ?_; rintro e w1 ⟨rfl, hy⟩) | (go_at_call 285; with_reducible refine (HT2.out _).mono ?_; rintro e w1 ⟨rfl, hy⟩)); go_wp2_with fail; (refine hK.out _ _ (by first | assumption | exact Ext.trans (by assumption) hy | exact Res.ext (by assumption) hy | exact ResB.ext (by assumption) hy | exact ResC.ext (by assumption) hy | (go_split_ands; (repeat' apply And.intro) <;> exact Ext.cellOf hy (by assumption))) (fun hHeld => ?_)); clear hK K; (try simp only [Act.put, Ord.a, Ord.b, Ord.c]))
      refine Ord.K 18 25 ?_
      refine Ord.K 19 26 ?_
      refine Ord.K 20 27 ?_
      refine wpAnyH_done (by kernel_rfl) ?_ _
      go_wp2_with (go_at_call 284; refine (HB1.out _).mono ?_; rintro e w3 ⟨rfl, hz⟩)
      go_ret
      exact ⟨ret_int H.out, hX.trans (hHeld.trans (by repeat (first | exact Ext.refl _ | assumption | apply Ext.alloc | apply Ext.drew | (refine Ext.trans ?_ (by assumption)) | (refine Ext.setNew ?_ (by simp <;> omega) _))))⟩
  · have HB1 := Lib.hid (fun w' => h1 ▸ before5_any a b c d p q w' ha hb hc hd hp hq)
    have HB2 := Lib.hid (fun w' => h2 ▸ before5_any a b c d u v w' ha hb hc hd hu hv)
    by_cases h3 : 0 < trn p q u v a b * trn p q u v c d
    · have H := Lib.hid (wyI_beside (show bsB a b c d p q u v = true from decide_eq_true h3))
      clear h1 h2
      go_enter Tryz.func238, Tryz.ntmps238
      go_wp2_with fail
      rw [← hW0]
      clear hW0
      refine wp_region_held_drew (S := (fun w' => Ext W0 w')) (by kernel_rfl) (by (try dsimp only); first | go_keep | exact (Ext.refl _).drew | exact Res.new2.drew | exact Res.new4.drew | exact ResB.drew (by assumption) | exact ResC.drew (by assumption) | assumption | exact Ext.drew (by assumption) | exact Res.drew (by assumption)) (fun hHeld => ?_)
      refine Ord.K 0 7 ?_
      refine Ord.K 1 8 ?_
      refine Ord.K 3 10 ?_
      refine Ord.K 4 11 ?_
      (refine wpAnyH_ready (rs := [2]) (by kernel_rfl) (by simp) ?_; refine AllReadyH.cons rfl (fun K hK => ?_) AllReadyH.nil; go_simp; (first | (go_at_call 284; with_reducible refine (HB1.out _).mono ?_; rintro e w1 ⟨rfl, hy⟩) | (go_at_call 284; with_reducible refine (HB2.out _).mono ?_; rintro e w1 ⟨rfl, hy⟩) | (go_at_call 285; with_reducible refine (HT1.out _).mono ?_; rintro e w1 ⟨rfl, hy⟩) | (go_at_call 285; with_reducible refine (HT2.out _).mono ?_; rintro e w1 ⟨rfl, hy⟩)); go_wp2_with fail; (refine hK.out _ _ (by first | assumption | exact Ext.trans (by assumption) hy | exact Res.ext (by assumption) hy | exact ResB.ext (by assumption) hy | exact ResC.ext (by assumption) hy | (go_split_ands; (repeat' apply And.intro) <;> exact Ext.cellOf hy (by assumption))) (fun hHeld => ?_)); clear hK K; (try simp only [Act.put, Ord.a, Ord.b, Ord.c]))
      (refine wpAnyH_ready (rs := [5]) (by kernel_rfl) (by simp) ?_; refine AllReadyH.cons rfl (fun K hK => ?_) AllReadyH.nil; go_simp; (first | (go_at_call 284; with_reducible refine (HB1.out _).mono ?_; rintro e w1 ⟨rfl, hy⟩) | (go_at_call 284; with_reducible refine (HB2.out _).mono ?_; rintro e w1 ⟨rfl, hy⟩) | (go_at_call 285; with_reducible refine (HT1.out _).mono ?_; rintro e w1 ⟨rfl, hy⟩) | (go_at_call 285; with_reducible refine (HT2.out _).mono ?_; rintro e w1 ⟨rfl, hy⟩)); go_wp2_with fail; (refine hK.out _ _ (by first | assumption | exact Ext.trans (by assumption) hy | exact Res.ext (by assumption) hy | exact ResB.ext (by assumption) hy | exact ResC.ext (by assumption) hy | (go_split_ands; (repeat' apply And.intro) <;> exact Ext.cellOf hy (by assumption))) (fun hHeld => ?_)); clear hK K; (try simp only [Act.put, Ord.a, Ord.b, Ord.c]))
      refine Ord.K 6 13 ?_
      refine Ord.K 7 14 ?_
      refine Ord.K 8 15 ?_
      refine Ord.K 9 16 ?_
      refine Ord.K 10 17 ?_
      refine Ord.K 11 18 ?_
      refine Ord.K 13 20 ?_
      refine Ord.K 14 21 ?_
      refine Ord.K 15 22 ?_
      refine Ord.K 16 23 ?_
      (refine wpAnyH_ready (rs := [12]) (by kernel_rfl) (by simp) ?_; refine AllReadyH.cons rfl (fun K hK => ?_) AllReadyH.nil; go_simp; (first | (go_at_call 284; with_reducible refine (HB1.out _).mono ?_; rintro e w1 ⟨rfl, hy⟩) | (go_at_call 284; with_reducible refine (HB2.out _).mono ?_; rintro e w1 ⟨rfl, hy⟩) | (go_at_call 285; with_reducible refine (HT1.out _).mono ?_; rintro e w1 ⟨rfl, hy⟩) | (go_at_call 285; with_reducible refine (HT2.out _).mono ?_; rintro e w1 ⟨rfl, hy⟩)); go_wp2_with fail; (refine hK.out _ _ (by first | assumption | exact Ext.trans (by assumption) hy | exact Res.ext (by assumption) hy | exact ResB.ext (by assumption) hy | exact ResC.ext (by assumption) hy | (go_split_ands; (repeat' apply And.intro) <;> exact Ext.cellOf hy (by assumption))) (fun hHeld => ?_)); clear hK K; (try simp only [Act.put, Ord.a, Ord.b, Ord.c]))
      (refine wpAnyH_ready (rs := [17]) (by kernel_rfl) (by simp) ?_; refine AllReadyH.cons rfl (fun K hK => ?_) AllReadyH.nil; go_simp; (first | (go_at_call 284; with_reducible refine (HB1.out _).mono ?_; rintro e w1 ⟨rfl, hy⟩) | (go_at_call 284; with_reducible refine (HB2.out _).mono ?_; rintro e w1 ⟨rfl, hy⟩) | (go_at_call 285; with_reducible refine (HT1.out _).mono ?_; rintro e w1 ⟨rfl, hy⟩) | (go_at_call 285; with_reducible refine (HT2.out _).mono ?_; rintro e w1 ⟨rfl, hy⟩)); go_wp2_with fail; (refine hK.out _ _ (by first | assumption | exact Ext.trans (by assumption) hy | exact Res.ext (by assumption) hy | exact ResB.ext (by assumption) hy | exact ResC.ext (by assumption) hy | (go_split_ands; (repeat' apply And.intro) <;> exact Ext.cellOf hy (by assumption))) (fun hHeld => ?_)); clear hK K; (try simp only [Act.put, Ord.a, Ord.b, Ord.c]))
      refine Ord.K 18 25 ?_
      refine Ord.K 19 26 ?_
      refine Ord.K 20 27 ?_
      refine wpAnyH_done (by kernel_rfl) ?_ _
      go_wp2
      go_ret
      exact ⟨ret_int H.out, hX.trans (hHeld.trans (by repeat (first | exact Ext.refl _ | assumption | apply Ext.alloc | apply Ext.drew | (refine Ext.trans ?_ (by assumption)) | (refine Ext.setNew ?_ (by simp <;> omega) _))))⟩
    · have H := Lib.hid (wyI_bwd h1 h2 (show bsB a b c d p q u v = false from decide_eq_false h3))
      clear h1 h2
      go_enter Tryz.func238, Tryz.ntmps238
      go_wp2_with fail
      rw [← hW0]
      clear hW0
      refine wp_region_held_drew (S := (fun w' => Ext W0 w')) (by kernel_rfl) (by (try dsimp only); first | go_keep | exact (Ext.refl _).drew | exact Res.new2.drew | exact Res.new4.drew | exact ResB.drew (by assumption) | exact ResC.drew (by assumption) | assumption | exact Ext.drew (by assumption) | exact Res.drew (by assumption)) (fun hHeld => ?_)
      refine Ord.K 0 7 ?_
      refine Ord.K 1 8 ?_
      refine Ord.K 3 10 ?_
      refine Ord.K 4 11 ?_
      (refine wpAnyH_ready (rs := [2]) (by kernel_rfl) (by simp) ?_; refine AllReadyH.cons rfl (fun K hK => ?_) AllReadyH.nil; go_simp; (first | (go_at_call 284; with_reducible refine (HB1.out _).mono ?_; rintro e w1 ⟨rfl, hy⟩) | (go_at_call 284; with_reducible refine (HB2.out _).mono ?_; rintro e w1 ⟨rfl, hy⟩) | (go_at_call 285; with_reducible refine (HT1.out _).mono ?_; rintro e w1 ⟨rfl, hy⟩) | (go_at_call 285; with_reducible refine (HT2.out _).mono ?_; rintro e w1 ⟨rfl, hy⟩)); go_wp2_with fail; (refine hK.out _ _ (by first | assumption | exact Ext.trans (by assumption) hy | exact Res.ext (by assumption) hy | exact ResB.ext (by assumption) hy | exact ResC.ext (by assumption) hy | (go_split_ands; (repeat' apply And.intro) <;> exact Ext.cellOf hy (by assumption))) (fun hHeld => ?_)); clear hK K; (try simp only [Act.put, Ord.a, Ord.b, Ord.c]))
      (refine wpAnyH_ready (rs := [5]) (by kernel_rfl) (by simp) ?_; refine AllReadyH.cons rfl (fun K hK => ?_) AllReadyH.nil; go_simp; (first | (go_at_call 284; with_reducible refine (HB1.out _).mono ?_; rintro e w1 ⟨rfl, hy⟩) | (go_at_call 284; with_reducible refine (HB2.out _).mono ?_; rintro e w1 ⟨rfl, hy⟩) | (go_at_call 285; with_reducible refine (HT1.out _).mono ?_; rintro e w1 ⟨rfl, hy⟩) | (go_at_call 285; with_reducible refine (HT2.out _).mono ?_; rintro e w1 ⟨rfl, hy⟩)); go_wp2_with fail; (refine hK.out _ _ (by first | assumption | exact Ext.trans (by assumption) hy | exact Res.ext (by assumption) hy | exact ResB.ext (by assumption) hy | exact ResC.ext (by assumption) hy | (go_split_ands; (repeat' apply And.intro) <;> exact Ext.cellOf hy (by assumption))) (fun hHeld => ?_)); clear hK K; (try simp only [Act.put, Ord.a, Ord.b, Ord.c]))
      refine Ord.K 6 13 ?_
      refine Ord.K 7 14 ?_
      refine Ord.K 8 15 ?_
      refine Ord.K 9 16 ?_
      refine Ord.K 10 17 ?_
      refine Ord.K 11 18 ?_
      refine Ord.K 13 20 ?_
      refine Ord.K 14 21 ?_
      refine Ord.K 15 22 ?_
      refine Ord.K 16 23 ?_
      (refine wpAnyH_ready (rs := [12]) (by kernel_rfl) (by simp) ?_; refine AllReadyH.cons rfl (fun K hK => ?_) AllReadyH.nil; go_simp; (first | (go_at_call 284; with_reducible refine (HB1.out _).mono ?_; rintro e w1 ⟨rfl, hy⟩) | (go_at_call 284; with_reducible refine (HB2.out _).mono ?_; rintro e w1 ⟨rfl, hy⟩) | (go_at_call 285; with_reducible refine (HT1.out _).mono ?_; rintro e w1 ⟨rfl, hy⟩) | (go_at_call 285; with_reducible refine (HT2.out _).mono ?_; rintro e w1 ⟨rfl, hy⟩)); go_wp2_with fail; (refine hK.out _ _ (by first | assumption | exact Ext.trans (by assumption) hy | exact Res.ext (by assumption) hy | exact ResB.ext (by assumption) hy | exact ResC.ext (by assumption) hy | (go_split_ands; (repeat' apply And.intro) <;> exact Ext.cellOf hy (by assumption))) (fun hHeld => ?_)); clear hK K; (try simp only [Act.put, Ord.a, Ord.b, Ord.c]))
      (refine wpAnyH_ready (rs := [17]) (by kernel_rfl) (by simp) ?_; refine AllReadyH.cons rfl (fun K hK => ?_) AllReadyH.nil; go_simp; (first | (go_at_call 284; with_reducible refine (HB1.out _).mono ?_; rintro e w1 ⟨rfl, hy⟩) | (go_at_call 284; with_reducible refine (HB2.out _).mono ?_; rintro e w1 ⟨rfl, hy⟩) | (go_at_call 285; with_reducible refine (HT1.out _).mono ?_; rintro e w1 ⟨rfl, hy⟩) | (go_at_call 285; with_reducible refine (HT2.out _).mono ?_; rintro e w1 ⟨rfl, hy⟩)); go_wp2_with fail; (refine hK.out _ _ (by first | assumption | exact Ext.trans (by assumption) hy | exact Res.ext (by assumption) hy | exact ResB.ext (by assumption) hy | exact ResC.ext (by assumption) hy | (go_split_ands; (repeat' apply And.intro) <;> exact Ext.cellOf hy (by assumption))) (fun hHeld => ?_)); clear hK K; (try simp only [Act.put, Ord.a, Ord.b, Ord.c]))
      refine Ord.K 18 25 ?_
      refine Ord.K 19 26 ?_
      refine Ord.K 20 27 ?_
      refine wpAnyH_done (by kernel_rfl) ?_ _
      go_wp2_with (go_at_call 284; refine (HB1.out _).mono ?_; rintro e w3 ⟨rfl, hz⟩)
      go_ret
      exact ⟨ret_int H.out, hX.trans (hHeld.trans (by repeat (first | exact Ext.refl _ | assumption | apply Ext.alloc | apply Ext.drew | (refine Ext.trans ?_ (by assumption)) | (refine Ext.setNew ?_ (by simp <;> omega) _))))⟩
  · have HB1 := Lib.hid (fun w' => h1 ▸ before5_any a b c d p q w' ha hb hc hd hp hq)
    have HB2 := Lib.hid (fun w' => h2 ▸ before5_any a b c d u v w' ha hb hc hd hu hv)
    have H := Lib.hid (wyI_same (h1.trans h2.symm))
    clear h1 h2
    go_enter Tryz.func238, Tryz.ntmps238
    go_wp2_with fail
    rw [← hW0]
    clear hW0
    refine wp_region_held_drew (S := (fun w' => Ext W0 w')) (by kernel_rfl) (by (try dsimp only); first | go_keep | exact (Ext.refl _).drew | exact Res.new2.drew | exact Res.new4.drew | exact ResB.drew (by assumption) | exact ResC.drew (by assumption) | assumption | exact Ext.drew (by assumption) | exact Res.drew (by assumption)) (fun hHeld => ?_)
    refine Ord.K 0 7 ?_
    refine Ord.K 1 8 ?_
    refine Ord.K 3 10 ?_
    refine Ord.K 4 11 ?_
    (refine wpAnyH_ready (rs := [2]) (by kernel_rfl) (by simp) ?_; refine AllReadyH.cons rfl (fun K hK => ?_) AllReadyH.nil; go_simp; (first | (go_at_call 284; with_reducible refine (HB1.out _).mono ?_; rintro e w1 ⟨rfl, hy⟩) | (go_at_call 284; with_reducible refine (HB2.out _).mono ?_; rintro e w1 ⟨rfl, hy⟩) | (go_at_call 285; with_reducible refine (HT1.out _).mono ?_; rintro e w1 ⟨rfl, hy⟩) | (go_at_call 285; with_reducible refine (HT2.out _).mono ?_; rintro e w1 ⟨rfl, hy⟩)); go_wp2_with fail; (refine hK.out _ _ (by first | assumption | exact Ext.trans (by assumption) hy | exact Res.ext (by assumption) hy | exact ResB.ext (by assumption) hy | exact ResC.ext (by assumption) hy | (go_split_ands; (repeat' apply And.intro) <;> exact Ext.cellOf hy (by assumption))) (fun hHeld => ?_)); clear hK K; (try simp only [Act.put, Ord.a, Ord.b, Ord.c]))
    (refine wpAnyH_ready (rs := [5]) (by kernel_rfl) (by simp) ?_; refine AllReadyH.cons rfl (fun K hK => ?_) AllReadyH.nil; go_simp; (first | (go_at_call 284; with_reducible refine (HB1.out _).mono ?_; rintro e w1 ⟨rfl, hy⟩) | (go_at_call 284; with_reducible refine (HB2.out _).mono ?_; rintro e w1 ⟨rfl, hy⟩) | (go_at_call 285; with_reducible refine (HT1.out _).mono ?_; rintro e w1 ⟨rfl, hy⟩) | (go_at_call 285; with_reducible refine (HT2.out _).mono ?_; rintro e w1 ⟨rfl, hy⟩)); go_wp2_with fail; (refine hK.out _ _ (by first | assumption | exact Ext.trans (by assumption) hy | exact Res.ext (by assumption) hy | exact ResB.ext (by assumption) hy | exact ResC.ext (by assumption) hy | (go_split_ands; (repeat' apply And.intro) <;> exact Ext.cellOf hy (by assumption))) (fun hHeld => ?_)); clear hK K; (try simp only [Act.put, Ord.a, Ord.b, Ord.c]))
    refine Ord.K 6 13 ?_
    refine Ord.K 7 14 ?_
    (refine Ord.s 8 15 ?_ ?_; rfl; (try simp only [Act.put, Ord.a, Ord.b, Ord.c]))
    (refine Ord.s 9 16 ?_ ?_; rfl; (try simp only [Act.put, Ord.a, Ord.b, Ord.c]))
    (refine Ord.s 10 17 ?_ ?_; rfl; (try simp only [Act.put, Ord.a, Ord.b, Ord.c]))
    (refine Ord.s 11 18 ?_ ?_; rfl; (try simp only [Act.put, Ord.a, Ord.b, Ord.c]))
    (refine Ord.s 13 20 ?_ ?_; rfl; (try simp only [Act.put, Ord.a, Ord.b, Ord.c]))
    (refine Ord.s 14 21 ?_ ?_; rfl; (try simp only [Act.put, Ord.a, Ord.b, Ord.c]))
    (refine Ord.s 15 22 ?_ ?_; rfl; (try simp only [Act.put, Ord.a, Ord.b, Ord.c]))
    (refine Ord.s 16 23 ?_ ?_; rfl; (try simp only [Act.put, Ord.a, Ord.b, Ord.c]))
    (refine Ord.s 12 19 ?_ ?_; rfl; (try simp only [Act.put, Ord.a, Ord.b, Ord.c]))
    (refine Ord.s 17 24 ?_ ?_; rfl; (try simp only [Act.put, Ord.a, Ord.b, Ord.c]))
    (refine Ord.s 18 25 ?_ ?_; rfl; (try simp only [Act.put, Ord.a, Ord.b, Ord.c]))
    (refine Ord.s 19 26 ?_ ?_; rfl; (try simp only [Act.put, Ord.a, Ord.b, Ord.c]))
    refine Ord.K 20 27 ?_
    refine wpAnyH_done (by kernel_rfl) ?_ _
    go_wp2
    go_ret
    exact ⟨ret_int H.out, hX.trans (hHeld.trans (by repeat (first | exact Ext.refl _ | assumption | apply Ext.alloc | apply Ext.drew | (refine Ext.trans ?_ (by assumption)) | (refine Ext.setNew ?_ (by simp <;> omega) _))))⟩
end Go.Proofs.YtmlojndkpnhalaaGreat.Crs
