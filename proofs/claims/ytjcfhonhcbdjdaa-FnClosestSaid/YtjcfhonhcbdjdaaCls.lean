/- Contracts of ClosestFix (impl, spec). -/
import Derived.Test.YtjcfhonhcbdjdaaWay
namespace Go.Proofs.Ytjcfhonhcbdjdaa.Trk
open Go.ChangeShapes Go.WideShapes Go.ChangeAt Go.RowKit
open Go.Proofs.Ytjcfhonhcbdjdaa.Num Go.Proofs.Ytjcfhonhcbdjdaa.Kit Go.Proofs.Ytjcfhonhcbdjdaa.Pts Go.Proofs.Ytjcfhonhcbdjdaa.Seg
set_option linter.unusedVariables false
set_option linter.unusedSimpArgs false

/-- The square of the distance of a fix from a point. -/
def dsI (fs : List F3) (x y : Int) (i : Nat) : Int := sqD x y (fx fs i).x (fx fs i).y
/-- The first of the first n fixes with the smallest distance. -/
def bst (fs : List F3) (x y : Int) : Nat → Nat
  | 0 => 0
  | n + 1 => if dsI fs x y n < dsI fs x y (bst fs x y n) then n else bst fs x y n
theorem bst_lt (fs : List F3) (x y : Int) : ∀ n, 0 < n → bst fs x y n < n
  | 0, h => absurd h (by omega)
  | n + 1, _ => by
    unfold bst
    split
    · omega
    · rcases Nat.eq_zero_or_pos n with h | h
      · subst h; simp [bst]
      · have := bst_lt fs x y n h; omega
theorem bst_one (fs : List F3) (x y : Int) : bst fs x y 1 = 0 := by simp [bst]

def clB (fs : List F3) (x y : Int) : Bool := trB fs && ptB x y
def clC (fs : List F3) (x y : Int) : Int := if clB fs x y = true then 0 else 1
def clV (fs : List F3) (x y : Int) : Int := if clB fs x y = true then (bst fs x y fs.length : Int) else 0
theorem cl_bad {fs : List F3} {x y : Int} (h : clB fs x y = false) : clC fs x y = 1 ∧ clV fs x y = 0 := by unfold clC clV; rw [h]; simp
theorem cl_ok {fs : List F3} {x y : Int} (h : clB fs x y = true) : clC fs x y = 0 ∧ clV fs x y = (bst fs x y fs.length : Int) := by unfold clC clV; rw [if_pos h, if_pos h]; simp

theorem vecFix (x y : Int) (f : F3) (w : World) (hx : Co x) (hy : Co y) (hf : fxB f = true) :
    Calls Try.prog 55 #[Pt x y, Pt f.x f.y] w fun e w' => e = .returned (Pt (f.x - x) (f.y - y)) ∧ Ext w w' := vectorTo_any _ _ _ _ _ hx hy (fxB_yes hf).2.1 (fxB_yes hf).2.2
theorem lenFix (x y : Int) (f : F3) (w : World) (hx : Co x) (hy : Co y) (hf : fxB f = true) :
    Calls Try.prog 56 #[Pt (f.x - x) (f.y - y)] w fun e w' => e = .returned (.int .i64 (sqD x y f.x f.y)) ∧ Ext w w' := by
  have h := (fxB_yes hf).2
  exact squareLength_any _ _ _ (by omega) (by omega)

/-- What the loop of impl keeps. -/
def RelC (w : World) (fs : List F3) (x y : Int) (c s i : Value) (wr : World) : Prop :=
  ∃ n : Nat, i = .int .i64 n ∧ n ≤ fs.length ∧ c = .int .i64 (bst fs x y n) ∧ s = .int .i64 (dsI fs x y (bst fs x y n)) ∧ Ext w wr

set_option maxHeartbeats 2000000 in
theorem closest_impl (a : Option Addr) (cap : Nat) (fs : List F3) (x y : Int) (w : World) (hf : Fxs w a fs) :
    Calls Try.prog 28 #[Tr (.slice a fs.length cap), Pt x y] w fun e w' => e = .returned (.tuple #[.int .i64 (clV fs x y), .int .i64 (clC fs x y)]) ∧ Ext w w' := by
  have HF := Lib.hid hf
  clear hf
  cases hv : trB fs
  · obtain ⟨H, G⟩ := cl_bad (x := x) (y := y) (show clB fs x y = false by unfold clB; rw [hv]; rfl)
    replace H := Lib.hid H
    replace G := Lib.hid G
    go_enter Try.func28, Try.ntmps28
    go_wp2_with (go_at_call 47; refine (trackValid_any _ _ _ _ (HF.out.ext (by repeat (first | exact Ext.refl _ | assumption | apply Ext.alloc | apply Ext.drew | (refine Ext.trans ?_ (by assumption)) | (refine Ext.setNew ?_ (by simp <;> omega) _))))).mono ?_; rw [hv]; rintro e w1 ⟨rfl, h1⟩)
    rw [G.out, H.out]
    go_ret2
    exact ⟨rfl, (by repeat (first | exact Ext.refl _ | assumption | apply Ext.alloc | apply Ext.drew | (refine Ext.trans ?_ (by assumption)) | (refine Ext.setNew ?_ (by simp <;> omega) _)))⟩
  obtain ⟨⟨h2, h40⟩, hok⟩ := trB_yes hv
  have HOK := Lib.hid hok
  clear hok
  cases hp : ptB x y
  · obtain ⟨H, G⟩ := cl_bad (x := x) (y := y) (show clB fs x y = false by unfold clB; rw [hv, hp]; rfl)
    replace H := Lib.hid H
    replace G := Lib.hid G
    go_enter Try.func28, Try.ntmps28
    go_wp2_with fail
    refine (trackValid_any _ _ _ _ (HF.out.ext (by repeat (first | exact Ext.refl _ | assumption | apply Ext.alloc | apply Ext.drew | (refine Ext.trans ?_ (by assumption)) | (refine Ext.setNew ?_ (by simp <;> omega) _))))).mono ?_
    rw [hv]
    rintro e w1 ⟨rfl, h⟩
    have X := Lib.hid ((((Ext.refl w).alloc _).alloc _).trans h)
    have b0 : w1.cell? ⟨w.heap.size + 1, 0, none⟩ = some (.int .i64 x) := h.cellOf (boxed 0 rfl (by simp))
    have b1 : w1.cell? ⟨w.heap.size + 1, 1, none⟩ = some (.int .i64 y) := h.cellOf (boxed 1 rfl (by simp))
    clear h
    go_wp2_with fail
    refine (isValid_any _ _ _).mono ?_
    rw [hp]
    rintro e w2 ⟨rfl, h⟩
    replace X := Lib.hid (X.out.trans h)
    clear h b0 b1
    go_wp2
    rw [G.out, H.out]
    go_ret2
    exact ⟨rfl, X.out⟩
  obtain ⟨H, G⟩ := cl_ok (fs := fs) (x := x) (y := y) (show clB fs x y = true by unfold clB; rw [hv, hp]; rfl)
  replace H := Lib.hid H
  replace G := Lib.hid G
  obtain ⟨cx, cy⟩ := ptB_yes hp
  have CX := Lib.hid (And.intro cx cy)
  clear cx cy
  go_enter Try.func28, Try.ntmps28
  go_wp2_with fail
  refine (trackValid_any _ _ _ _ (HF.out.ext (by repeat (first | exact Ext.refl _ | assumption | apply Ext.alloc | apply Ext.drew | (refine Ext.trans ?_ (by assumption)) | (refine Ext.setNew ?_ (by simp <;> omega) _))))).mono ?_
  rw [hv]
  rintro e w1 ⟨rfl, h⟩
  have X := Lib.hid ((((Ext.refl w).alloc _).alloc _).trans h)
  have bt : w1.cell? ⟨w.heap.size, 0, none⟩ = some (.slice a fs.length cap) := h.cellOf (((Ext.refl _).alloc _).cellOf (boxed 0 rfl rfl))
  have b0 : w1.cell? ⟨w.heap.size + 1, 0, none⟩ = some (.int .i64 x) := h.cellOf (boxed 0 rfl (by simp))
  have b1 : w1.cell? ⟨w.heap.size + 1, 1, none⟩ = some (.int .i64 y) := h.cellOf (boxed 1 rfl (by simp))
  clear h
  go_wp2_with fail
  refine (isValid_any _ _ _).mono ?_
  rw [hp]
  rintro e w2 ⟨rfl, h⟩
  replace X := Lib.hid (X.out.trans h)
  have et : ∀ w', Ext w2 w' → w'.cell? ⟨w.heap.size, 0, none⟩ = some (.slice a fs.length cap) := fun w' g => g.cellOf (h.cellOf bt)
  have e0 : ∀ w', Ext w2 w' → w'.cell? ⟨w.heap.size + 1, 0, none⟩ = some (.int .i64 x) := fun w' g => g.cellOf (h.cellOf b0)
  have e1 : ∀ w', Ext w2 w' → w'.cell? ⟨w.heap.size + 1, 1, none⟩ = some (.int .i64 y) := fun w' g => g.cellOf (h.cellOf b1)
  clear h bt b0 b1
  go_wp2_with fail
  refine wp_region_held_drew (S := (fun w' => Ext w2 w')) (by kernel_rfl) (by (try dsimp only); first | go_keep | exact (Ext.refl _).drew | exact Res.new2.drew | exact Res.new4.drew | exact ResB.drew (by assumption) | exact ResC.drew (by assumption) | assumption | exact Res.drew (by assumption)) (fun hHeld => ?_)
  (refine Ord.takeH 0 19 (v := ?_) rfl rfl (by kernel_rfl) (by kernel_rfl) (by kernel_rfl) (fun _ _ _ h => h) (by rfl) ?_ (by assumption) ?_; rotate_left; (intro w hSw; (try dsimp only at hSw); go_simp; (first | done | with_reducible rfl)); (try simp only [Act.put, List.setIfInBounds_toArray, List.set_cons_zero, List.set_cons_succ]))
  (refine Ord.takeH 1 20 (v := ?_) rfl rfl (by kernel_rfl) (by kernel_rfl) (by kernel_rfl) (fun _ _ _ h => h) (by rfl) ?_ (by assumption) ?_; rotate_left; (intro w hSw; (try dsimp only at hSw); go_simp; (first | done | with_reducible rfl)); (try simp only [Act.put, List.setIfInBounds_toArray, List.set_cons_zero, List.set_cons_succ]))
  (refine wpAnyH_ready (rs := [2]) (by kernel_rfl) (by simp) ?_; refine AllReadyH.cons rfl (fun K hK => ?_) AllReadyH.nil; go_simp; (first | (go_at_call 61; refine (first_any _ _ _ _ (HF.out.ext (X.out.trans (by first | assumption | exact (Ext.refl _).drew))) (by omega)).mono ?_; rintro e w3 ⟨rfl, hy⟩) | (go_at_call 62; refine (point_impl _ _ _ _).mono ?_; rintro e w4 ⟨rfl, hy⟩) | (go_at_call 55; refine (vecFix _ _ _ _ CX.out.1 CX.out.2 (okB_fx (HOK.out 0 (by omega)))).mono ?_; rintro e w5 ⟨rfl, hy⟩) | (go_at_call 56; refine (lenFix _ _ _ _ CX.out.1 CX.out.2 (okB_fx (HOK.out 0 (by omega)))).mono ?_; rintro e w6 ⟨rfl, hy⟩)); go_wp2_with fail; (refine hK.out _ _ (by first | assumption | exact Ext.trans (by assumption) hy | exact Res.ext (by assumption) hy | exact ResB.ext (by assumption) hy | exact ResC.ext (by assumption) hy | (go_split_ands; (repeat' apply And.intro) <;> exact Ext.cellOf hy (by assumption))) (fun hHeld => ?_)); clear hK K; (try simp only [Act.put, List.setIfInBounds_toArray, List.set_cons_zero, List.set_cons_succ]))
  (refine wpAnyH_ready (rs := [3]) (by kernel_rfl) (by simp) ?_; refine AllReadyH.cons rfl (fun K hK => ?_) AllReadyH.nil; go_simp; (first | (go_at_call 61; refine (first_any _ _ _ _ (HF.out.ext (X.out.trans (by first | assumption | exact (Ext.refl _).drew))) (by omega)).mono ?_; rintro e w3 ⟨rfl, hy⟩) | (go_at_call 62; refine (point_impl _ _ _ _).mono ?_; rintro e w4 ⟨rfl, hy⟩) | (go_at_call 55; refine (vecFix _ _ _ _ CX.out.1 CX.out.2 (okB_fx (HOK.out 0 (by omega)))).mono ?_; rintro e w5 ⟨rfl, hy⟩) | (go_at_call 56; refine (lenFix _ _ _ _ CX.out.1 CX.out.2 (okB_fx (HOK.out 0 (by omega)))).mono ?_; rintro e w6 ⟨rfl, hy⟩)); go_wp2_with fail; (refine hK.out _ _ (by first | assumption | exact Ext.trans (by assumption) hy | exact Res.ext (by assumption) hy | exact ResB.ext (by assumption) hy | exact ResC.ext (by assumption) hy | (go_split_ands; (repeat' apply And.intro) <;> exact Ext.cellOf hy (by assumption))) (fun hHeld => ?_)); clear hK K; (try simp only [Act.put, List.setIfInBounds_toArray, List.set_cons_zero, List.set_cons_succ]))
  (refine wpAnyH_ready (rs := [4]) (by kernel_rfl) (by simp) ?_; refine AllReadyH.cons rfl (fun K hK => ?_) AllReadyH.nil; go_simp; (first | (go_at_call 61; refine (first_any _ _ _ _ (HF.out.ext (X.out.trans (by first | assumption | exact (Ext.refl _).drew))) (by omega)).mono ?_; rintro e w3 ⟨rfl, hy⟩) | (go_at_call 62; refine (point_impl _ _ _ _).mono ?_; rintro e w4 ⟨rfl, hy⟩) | (go_at_call 55; refine (vecFix _ _ _ _ CX.out.1 CX.out.2 (okB_fx (HOK.out 0 (by omega)))).mono ?_; rintro e w5 ⟨rfl, hy⟩) | (go_at_call 56; refine (lenFix _ _ _ _ CX.out.1 CX.out.2 (okB_fx (HOK.out 0 (by omega)))).mono ?_; rintro e w6 ⟨rfl, hy⟩)); go_wp2_with fail; (refine hK.out _ _ (by first | assumption | exact Ext.trans (by assumption) hy | exact Res.ext (by assumption) hy | exact ResB.ext (by assumption) hy | exact ResC.ext (by assumption) hy | (go_split_ands; (repeat' apply And.intro) <;> exact Ext.cellOf hy (by assumption))) (fun hHeld => ?_)); clear hK K; (try simp only [Act.put, List.setIfInBounds_toArray, List.set_cons_zero, List.set_cons_succ]))
  (refine wpAnyH_ready (rs := [5]) (by kernel_rfl) (by simp) ?_; refine AllReadyH.cons rfl (fun K hK => ?_) AllReadyH.nil; go_simp; (first | (go_at_call 61; refine (first_any _ _ _ _ (HF.out.ext (X.out.trans (by first | assumption | exact (Ext.refl _).drew))) (by omega)).mono ?_; rintro e w3 ⟨rfl, hy⟩) | (go_at_call 62; refine (point_impl _ _ _ _).mono ?_; rintro e w4 ⟨rfl, hy⟩) | (go_at_call 55; refine (vecFix _ _ _ _ CX.out.1 CX.out.2 (okB_fx (HOK.out 0 (by omega)))).mono ?_; rintro e w5 ⟨rfl, hy⟩) | (go_at_call 56; refine (lenFix _ _ _ _ CX.out.1 CX.out.2 (okB_fx (HOK.out 0 (by omega)))).mono ?_; rintro e w6 ⟨rfl, hy⟩)); go_wp2_with fail; (refine hK.out _ _ (by first | assumption | exact Ext.trans (by assumption) hy | exact Res.ext (by assumption) hy | exact ResB.ext (by assumption) hy | exact ResC.ext (by assumption) hy | (go_split_ands; (repeat' apply And.intro) <;> exact Ext.cellOf hy (by assumption))) (fun hHeld => ?_)); clear hK K; (try simp only [Act.put, List.setIfInBounds_toArray, List.set_cons_zero, List.set_cons_succ]))
  (refine Ord.takeH 6 7 (v := ?_) rfl rfl (by kernel_rfl) (by kernel_rfl) (by kernel_rfl) (fun _ _ _ h => h) (by rfl) ?_ (by assumption) ?_; rotate_left; (intro w hSw; (try dsimp only at hSw); go_simp; (first | done | with_reducible rfl)); (try simp only [Act.put, List.setIfInBounds_toArray, List.set_cons_zero, List.set_cons_succ]))
  refine wpAnyH_done (by kernel_rfl) ?_ _
  have X3 := Lib.hid (X.out.trans (by assumption : Ext w2 w6))
  have HE := Lib.hid (And.intro et (And.intro e0 e1))
  have b5 := et w6 (by assumption)
  rcases HF.out.2 with h0 | ⟨b, off, rfl, hb⟩
  · rw [h0] at h2; simp at h2
  have HB := Lib.hid hb
  have HY := Lib.hid (by assumption : Ext w2 w6)
  clear hb et e0 e1 X
  go_wp2
  go_loopw [6, 7, 28] (fun c s i wr => RelC w6 fs x y c s i wr) (fun c s i _ => fs.length - (intOf i).toNat)
  case atStart => exact ⟨0, rfl, Nat.zero_le _, rfl, rfl, Ext.refl _⟩
  case round =>
    obtain ⟨n, rfl, hn, rfl, rfl, hx⟩ := hrel
    have HX := Lib.hid hx
    clear hx
    by_cases hn1 : n < fs.length
    · obtain ⟨c0, c1, c2⟩ := ((HB.out n hn1).ext X3.out).ext HX.out
      have i0 : (0 : Int) ≤ (n : Int) := by omega
      have i1 : (n : Int) < (fs.length : Int) := by omega
      have T0 : IntKind.i64.wrap ((n : Int) + 1) = (n : Int) + 1 := wrap_succ (by omega)
      obtain ⟨et, e0, e1⟩ := HE.out
      generalize hW : wr.alloc (.cells #[.int .i64 (fx fs n).t, .int .i64 (fx fs n).x, .int .i64 (fx fs n).y] 36) = W
      have hX : Ext w2 W := (HY.out.trans HX.out).trans (hW ▸ (Ext.refl _).alloc _)
      have hX2 : Ext wr W := hW ▸ (Ext.refl _).alloc _
      have f0 : ∀ w', Ext W w' → w'.cell? ⟨wr.heap.size, 0, none⟩ = some (.int .i64 (fx fs n).t) := fun w' h => h.cellOf (hW ▸ boxed 0 rfl rfl)
      have f1 : ∀ w', Ext W w' → w'.cell? ⟨wr.heap.size, 1, none⟩ = some (.int .i64 (fx fs n).x) := fun w' h => h.cellOf (hW ▸ boxed 1 rfl rfl)
      have f2 : ∀ w', Ext W w' → w'.cell? ⟨wr.heap.size, 2, none⟩ = some (.int .i64 (fx fs n).y) := fun w' h => h.cellOf (hW ▸ boxed 2 rfl rfl)
      have g0 : ∀ w', Ext W w' → w'.cell? ⟨w.heap.size + 1, 0, none⟩ = some (.int .i64 x) := fun w' h => e0 _ (hX.trans h)
      have g1 : ∀ w', Ext W w' → w'.cell? ⟨w.heap.size + 1, 1, none⟩ = some (.int .i64 y) := fun w' h => e1 _ (hX.trans h)
      clear et e0 e1
      have HD := Lib.hid (show dsI fs x y n = sqD x y (fx fs n).x (fx fs n).y from rfl)
      go_wp2_with fail
      refine wp_region_held_drew (S := (fun w' => Ext W w')) (by kernel_rfl) (by (try dsimp only); first | go_keep | exact (Ext.refl _).drew | exact Res.new2.drew | exact Res.new4.drew | exact ResB.drew (by assumption) | exact ResC.drew (by assumption) | assumption | exact Res.drew (by assumption)) (fun hHeld => ?_)
      (refine Ord.takeH 0 33 (v := ?_) rfl rfl (by kernel_rfl) (by kernel_rfl) (by kernel_rfl) (fun _ _ _ h => h) (by rfl) ?_ (by assumption) ?_; rotate_left; (intro w hSw; (try dsimp only at hSw); go_simp; (first | done | with_reducible rfl)); (try simp only [Act.put, List.setIfInBounds_toArray, List.set_cons_zero, List.set_cons_succ]))
      (refine Ord.takeH 1 34 (v := ?_) rfl rfl (by kernel_rfl) (by kernel_rfl) (by kernel_rfl) (fun _ _ _ h => h) (by rfl) ?_ (by assumption) ?_; rotate_left; (intro w hSw; (try dsimp only at hSw); go_simp; (first | done | with_reducible rfl)); (try simp only [Act.put, List.setIfInBounds_toArray, List.set_cons_zero, List.set_cons_succ]))
      (refine wpAnyH_ready (rs := [2]) (by kernel_rfl) (by simp) ?_; refine AllReadyH.cons rfl (fun K hK => ?_) AllReadyH.nil; go_simp; (first | (go_at_call 62; refine (point_impl _ _ _ _).mono ?_; rintro e w4 ⟨rfl, hy⟩) | (go_at_call 55; refine (vecFix _ _ _ _ CX.out.1 CX.out.2 (okB_fx (HOK.out n hn1))).mono ?_; rintro e w5 ⟨rfl, hy⟩) | (go_at_call 56; refine (lenFix _ _ _ _ CX.out.1 CX.out.2 (okB_fx (HOK.out n hn1))).mono ?_; rintro e w7 ⟨rfl, hy⟩)); go_wp2_with fail; (refine hK.out _ _ (by first | assumption | exact Ext.trans (by assumption) hy | exact Res.ext (by assumption) hy | exact ResB.ext (by assumption) hy | exact ResC.ext (by assumption) hy | (go_split_ands; (repeat' apply And.intro) <;> exact Ext.cellOf hy (by assumption))) (fun hHeld => ?_)); clear hK K; (try simp only [Act.put, List.setIfInBounds_toArray, List.set_cons_zero, List.set_cons_succ]))
      (refine wpAnyH_ready (rs := [3]) (by kernel_rfl) (by simp) ?_; refine AllReadyH.cons rfl (fun K hK => ?_) AllReadyH.nil; go_simp; (first | (go_at_call 62; refine (point_impl _ _ _ _).mono ?_; rintro e w4 ⟨rfl, hy⟩) | (go_at_call 55; refine (vecFix _ _ _ _ CX.out.1 CX.out.2 (okB_fx (HOK.out n hn1))).mono ?_; rintro e w5 ⟨rfl, hy⟩) | (go_at_call 56; refine (lenFix _ _ _ _ CX.out.1 CX.out.2 (okB_fx (HOK.out n hn1))).mono ?_; rintro e w7 ⟨rfl, hy⟩)); go_wp2_with fail; (refine hK.out _ _ (by first | assumption | exact Ext.trans (by assumption) hy | exact Res.ext (by assumption) hy | exact ResB.ext (by assumption) hy | exact ResC.ext (by assumption) hy | (go_split_ands; (repeat' apply And.intro) <;> exact Ext.cellOf hy (by assumption))) (fun hHeld => ?_)); clear hK K; (try simp only [Act.put, List.setIfInBounds_toArray, List.set_cons_zero, List.set_cons_succ]))
      (refine wpAnyH_ready (rs := [4]) (by kernel_rfl) (by simp) ?_; refine AllReadyH.cons rfl (fun K hK => ?_) AllReadyH.nil; go_simp; (first | (go_at_call 62; refine (point_impl _ _ _ _).mono ?_; rintro e w4 ⟨rfl, hy⟩) | (go_at_call 55; refine (vecFix _ _ _ _ CX.out.1 CX.out.2 (okB_fx (HOK.out n hn1))).mono ?_; rintro e w5 ⟨rfl, hy⟩) | (go_at_call 56; refine (lenFix _ _ _ _ CX.out.1 CX.out.2 (okB_fx (HOK.out n hn1))).mono ?_; rintro e w7 ⟨rfl, hy⟩)); go_wp2_with fail; (refine hK.out _ _ (by first | assumption | exact Ext.trans (by assumption) hy | exact Res.ext (by assumption) hy | exact ResB.ext (by assumption) hy | exact ResC.ext (by assumption) hy | (go_split_ands; (repeat' apply And.intro) <;> exact Ext.cellOf hy (by assumption))) (fun hHeld => ?_)); clear hK K; (try simp only [Act.put, List.setIfInBounds_toArray, List.set_cons_zero, List.set_cons_succ]))
      (refine Ord.takeH 5 10 (v := ?_) rfl rfl (by kernel_rfl) (by kernel_rfl) (by kernel_rfl) (fun _ _ _ h => h) (by rfl) ?_ (by assumption) ?_; rotate_left; (intro w hSw; (try dsimp only at hSw); go_simp; (first | done | with_reducible rfl)); (try simp only [Act.put, List.setIfInBounds_toArray, List.set_cons_zero, List.set_cons_succ]))
      refine wpAnyH_done (by kernel_rfl) ?_ _
      have HX4 := Lib.hid (HX.out.trans (hX2.trans (by assumption : Ext W w7)))
      rw [← HD.out]
      by_cases hlt : dsI fs x y n < dsI fs x y (bst fs x y n)
      · have E := Lib.hid (show bst fs x y (n + 1) = n by rw [bst, if_pos hlt])
        clear f0 f1 f2 g0 g1
        go_wp2
        go_roundw
        case rel => exact ⟨n + 1, by go_num, by omega, by rw [E.out], by rw [E.out], HX4.out⟩
        case measure => simp [intOf]; omega
      · have E := Lib.hid (show bst fs x y (n + 1) = bst fs x y n by rw [bst, if_neg hlt])
        clear f0 f1 f2 g0 g1
        go_wp2
        go_roundw
        case rel => exact ⟨n + 1, by go_num, by omega, by rw [E.out], by rw [E.out], HX4.out⟩
        case measure => simp [intOf]; omega
    · obtain rfl : n = fs.length := by omega
      go_wp2
      rw [G.out, H.out]
      go_ret2
      exact ⟨rfl, X3.out.trans HX.out⟩

theorem sqFix (x y : Int) (f : F3) (w : World) (hx : Co x) (hy : Co y) (hf : fxB f = true) :
    Calls Try.prog 64 #[Pt f.x f.y, Pt x y] w fun e w' => e = .returned (.int .i64 (sqD x y f.x f.y)) ∧ Ext w w' := by
  have h := (fxB_yes hf).2
  have := square_any f.x f.y x y w h.1 h.2 hx hy
  rw [show sqD f.x f.y x y = sqD x y f.x f.y by rw [sqD_eq]; rfl] at this
  exact this

/-- What the loop of spec keeps. -/
def RelC2 (w : World) (fs : List F3) (x y : Int) (c i : Value) (wr : World) : Prop :=
  ∃ n : Nat, i = .int .i64 n ∧ 1 ≤ n ∧ n ≤ fs.length ∧ c = .int .i64 (bst fs x y n) ∧ Ext w wr

set_option maxHeartbeats 2000000 in
theorem closest_spec (a : Option Addr) (cap : Nat) (fs : List F3) (x y : Int) (w : World) (hf : Fxs w a fs) :
    Calls Try.prog 29 #[Tr (.slice a fs.length cap), Pt x y] w fun e w' => e = .returned (.tuple #[.int .i64 (clV fs x y), .int .i64 (clC fs x y)]) ∧ Ext w w' := by
  have HF := Lib.hid hf
  clear hf
  cases hv : trB fs
  · obtain ⟨H, G⟩ := cl_bad (x := x) (y := y) (show clB fs x y = false by unfold clB; rw [hv]; rfl)
    replace H := Lib.hid H
    replace G := Lib.hid G
    go_enter Try.func29, Try.ntmps29
    go_wp2_with (go_at_call 41; refine (isTrack_spec _ _ _ _ (HF.out.ext (by repeat (first | exact Ext.refl _ | assumption | apply Ext.alloc | apply Ext.drew | (refine Ext.trans ?_ (by assumption)) | (refine Ext.setNew ?_ (by simp <;> omega) _))))).mono ?_; rw [hv]; rintro e w1 ⟨rfl, h1⟩)
    rw [G.out, H.out]
    go_ret2
    exact ⟨rfl, (by repeat (first | exact Ext.refl _ | assumption | apply Ext.alloc | apply Ext.drew | (refine Ext.trans ?_ (by assumption)) | (refine Ext.setNew ?_ (by simp <;> omega) _)))⟩
  obtain ⟨⟨h2, h40⟩, hok⟩ := trB_yes hv
  have HOK := Lib.hid hok
  clear hok
  cases hp : ptB x y
  · obtain ⟨H, G⟩ := cl_bad (x := x) (y := y) (show clB fs x y = false by unfold clB; rw [hv, hp]; rfl)
    replace H := Lib.hid H
    replace G := Lib.hid G
    go_enter Try.func29, Try.ntmps29
    go_wp2_with fail
    refine (isTrack_spec _ _ _ _ (HF.out.ext (by repeat (first | exact Ext.refl _ | assumption | apply Ext.alloc | apply Ext.drew | (refine Ext.trans ?_ (by assumption)) | (refine Ext.setNew ?_ (by simp <;> omega) _))))).mono ?_
    rw [hv]
    rintro e w1 ⟨rfl, h⟩
    have X := Lib.hid ((((Ext.refl w).alloc _).alloc _).trans h)
    have b0 : w1.cell? ⟨w.heap.size + 1, 0, none⟩ = some (.int .i64 x) := h.cellOf (boxed 0 rfl (by simp))
    have b1 : w1.cell? ⟨w.heap.size + 1, 1, none⟩ = some (.int .i64 y) := h.cellOf (boxed 1 rfl (by simp))
    clear h
    go_wp2_with fail
    refine (isPoint_spec _ _ _).mono ?_
    rw [hp]
    rintro e w2 ⟨rfl, h⟩
    replace X := Lib.hid (X.out.trans h)
    clear h b0 b1
    go_wp2
    rw [G.out, H.out]
    go_ret2
    exact ⟨rfl, X.out⟩
  obtain ⟨H, G⟩ := cl_ok (fs := fs) (x := x) (y := y) (show clB fs x y = true by unfold clB; rw [hv, hp]; rfl)
  replace H := Lib.hid H
  replace G := Lib.hid G
  obtain ⟨cx, cy⟩ := ptB_yes hp
  have CX := Lib.hid (And.intro cx cy)
  clear cx cy
  go_enter Try.func29, Try.ntmps29
  go_wp2_with fail
  refine (isTrack_spec _ _ _ _ (HF.out.ext (by repeat (first | exact Ext.refl _ | assumption | apply Ext.alloc | apply Ext.drew | (refine Ext.trans ?_ (by assumption)) | (refine Ext.setNew ?_ (by simp <;> omega) _))))).mono ?_
  rw [hv]
  rintro e w1 ⟨rfl, h⟩
  have X := Lib.hid ((((Ext.refl w).alloc _).alloc _).trans h)
  have bt : w1.cell? ⟨w.heap.size, 0, none⟩ = some (.slice a fs.length cap) := h.cellOf (((Ext.refl _).alloc _).cellOf (boxed 0 rfl rfl))
  have b0 : w1.cell? ⟨w.heap.size + 1, 0, none⟩ = some (.int .i64 x) := h.cellOf (boxed 0 rfl (by simp))
  have b1 : w1.cell? ⟨w.heap.size + 1, 1, none⟩ = some (.int .i64 y) := h.cellOf (boxed 1 rfl (by simp))
  clear h
  go_wp2_with fail
  refine (isPoint_spec _ _ _).mono ?_
  rw [hp]
  rintro e w2 ⟨rfl, h⟩
  replace X := Lib.hid (X.out.trans h)
  have et : ∀ w', Ext w2 w' → w'.cell? ⟨w.heap.size, 0, none⟩ = some (.slice a fs.length cap) := fun w' g => g.cellOf (h.cellOf bt)
  have e0 : ∀ w', Ext w2 w' → w'.cell? ⟨w.heap.size + 1, 0, none⟩ = some (.int .i64 x) := fun w' g => g.cellOf (h.cellOf b0)
  have e1 : ∀ w', Ext w2 w' → w'.cell? ⟨w.heap.size + 1, 1, none⟩ = some (.int .i64 y) := fun w' g => g.cellOf (h.cellOf b1)
  have HE := Lib.hid (And.intro et (And.intro e0 e1))
  rcases HF.out.2 with h0 | ⟨b, off, rfl, hb⟩
  · rw [h0] at h2; simp at h2
  have HB := Lib.hid hb
  clear h bt b0 b1 hb et e0 e1
  go_wp2
  go_loopw [6, 7] (fun c i wr => RelC2 w2 fs x y c i wr) (fun c i _ => fs.length - (intOf i).toNat)
  case atStart => exact ⟨1, rfl, Nat.le_refl _, by omega, by rw [bst_one]; rfl, Ext.refl _⟩
  case round =>
    obtain ⟨n, rfl, hn0, hn, rfl, hx⟩ := hrel
    have HX := Lib.hid hx
    have bt := HE.out.1 wr hx
    clear hx
    by_cases hn1 : n < fs.length
    · have hm1 : bst fs x y n < fs.length := by have := bst_lt fs x y n hn0; omega
      obtain ⟨c0, c1, c2⟩ := ((HB.out n hn1).ext X.out).ext HX.out
      obtain ⟨d0, d1, d2⟩ := ((HB.out (bst fs x y n) hm1).ext X.out).ext HX.out
      have i0 : (0 : Int) ≤ (n : Int) := by omega
      have i1 : (n : Int) < (fs.length : Int) := by omega
      have T0 : IntKind.i64.wrap ((n : Int) + 1) = (n : Int) + 1 := wrap_succ (by omega)
      have HD := Lib.hid (And.intro (show dsI fs x y n = sqD x y (fx fs n).x (fx fs n).y from rfl) (show dsI fs x y (bst fs x y n) = sqD x y (fx fs (bst fs x y n)).x (fx fs (bst fs x y n)).y from rfl))
      have HS := Lib.hid (show bst fs x y (n + 1) = if dsI fs x y n < dsI fs x y (bst fs x y n) then n else bst fs x y n from rfl)
      obtain ⟨et, e0, e1⟩ := HE.out
      generalize bst fs x y n = m at *
      have j0 : (0 : Int) ≤ (m : Int) := by omega
      have j1 : (m : Int) < (fs.length : Int) := by omega
      have ft : ∀ w', Ext wr w' → w'.cell? ⟨w.heap.size, 0, none⟩ = some (.slice (some ⟨b, off, none⟩) fs.length cap) := fun w' h => h.cellOf bt
      have f0 : ∀ w', Ext wr w' → w'.cell? ⟨b, off + n * 3, none⟩ = some (.int .i64 (fx fs n).t) := fun w' h => h.cellOf c0
      have f1 : ∀ w', Ext wr w' → w'.cell? ⟨b, off + n * 3 + 1, none⟩ = some (.int .i64 (fx fs n).x) := fun w' h => h.cellOf c1
      have f2 : ∀ w', Ext wr w' → w'.cell? ⟨b, off + n * 3 + 2, none⟩ = some (.int .i64 (fx fs n).y) := fun w' h => h.cellOf c2
      have k0 : ∀ w', Ext wr w' → w'.cell? ⟨b, off + m * 3, none⟩ = some (.int .i64 (fx fs m).t) := fun w' h => h.cellOf d0
      have k1 : ∀ w', Ext wr w' → w'.cell? ⟨b, off + m * 3 + 1, none⟩ = some (.int .i64 (fx fs m).x) := fun w' h => h.cellOf d1
      have k2 : ∀ w', Ext wr w' → w'.cell? ⟨b, off + m * 3 + 2, none⟩ = some (.int .i64 (fx fs m).y) := fun w' h => h.cellOf d2
      have g0 : ∀ w', Ext wr w' → w'.cell? ⟨w.heap.size + 1, 0, none⟩ = some (.int .i64 x) := fun w' h => e0 _ (HX.out.trans h)
      have g1 : ∀ w', Ext wr w' → w'.cell? ⟨w.heap.size + 1, 1, none⟩ = some (.int .i64 y) := fun w' h => e1 _ (HX.out.trans h)
      clear et e0 e1 c0 c1 c2 d0 d1 d2
      go_wp2_with fail
      refine wp_region_held_drew (S := (fun w' => Ext wr w')) (by kernel_rfl) (by (try dsimp only); first | go_keep | exact (Ext.refl _).drew | exact Res.new2.drew | exact Res.new4.drew | exact ResB.drew (by assumption) | exact ResC.drew (by assumption) | assumption | exact Res.drew (by assumption)) (fun hHeld => ?_)
      (refine Ord.takeH 0 23 (v := ?_) rfl rfl (by kernel_rfl) (by kernel_rfl) (by kernel_rfl) (fun _ _ _ h => h) (by rfl) ?_ (by assumption) ?_; rotate_left; (intro w hSw; (try dsimp only at hSw); go_simp; (first | done | with_reducible rfl)); (try simp only [Act.put, List.setIfInBounds_toArray, List.set_cons_zero, List.set_cons_succ]))
      (refine Ord.takeH 1 24 (v := ?_) rfl rfl (by kernel_rfl) (by kernel_rfl) (by kernel_rfl) (fun _ _ _ h => h) (by rfl) ?_ (by assumption) ?_; rotate_left; (intro w hSw; (try dsimp only at hSw); go_simp; (first | done | with_reducible rfl)); (try simp only [Act.put, List.setIfInBounds_toArray, List.set_cons_zero, List.set_cons_succ]))
      (refine Ord.takeH 2 25 (v := ?_) rfl rfl (by kernel_rfl) (by kernel_rfl) (by kernel_rfl) (fun _ _ _ h => h) (by rfl) ?_ (by assumption) ?_; rotate_left; (intro w hSw; (try dsimp only at hSw); go_simp; (first | done | with_reducible rfl)); (try simp only [Act.put, List.setIfInBounds_toArray, List.set_cons_zero, List.set_cons_succ]))
      (refine Ord.takeH 3 26 (v := ?_) rfl rfl (by kernel_rfl) (by kernel_rfl) (by kernel_rfl) (fun _ _ _ h => h) (by rfl) ?_ (by assumption) ?_; rotate_left; (intro w hSw; (try dsimp only at hSw); go_simp; (first | done | with_reducible rfl)); (try simp only [Act.put, List.setIfInBounds_toArray, List.set_cons_zero, List.set_cons_succ]))
      (refine Ord.takeH 4 27 (v := ?_) rfl rfl (by kernel_rfl) (by kernel_rfl) (by kernel_rfl) (fun _ _ _ h => h) (by rfl) ?_ (by assumption) ?_; rotate_left; (intro w hSw; (try dsimp only at hSw); go_simp; (first | done | with_reducible rfl)); (try simp only [Act.put, List.setIfInBounds_toArray, List.set_cons_zero, List.set_cons_succ]))
      (refine Ord.takeH 6 29 (v := ?_) rfl rfl (by kernel_rfl) (by kernel_rfl) (by kernel_rfl) (fun _ _ _ h => h) (by rfl) ?_ (by assumption) ?_; rotate_left; (intro w hSw; (try dsimp only at hSw); go_simp; (first | done | with_reducible rfl)); (try simp only [Act.put, List.setIfInBounds_toArray, List.set_cons_zero, List.set_cons_succ]))
      (refine Ord.takeH 8 31 (v := ?_) rfl rfl (by kernel_rfl) (by kernel_rfl) (by kernel_rfl) (fun _ _ _ h => h) (by rfl) ?_ (by assumption) ?_; rotate_left; (intro w hSw; (try dsimp only at hSw); go_simp; (first | done | with_reducible rfl)); (try simp only [Act.put, List.setIfInBounds_toArray, List.set_cons_zero, List.set_cons_succ]))
      (refine Ord.takeH 9 32 (v := ?_) rfl rfl (by kernel_rfl) (by kernel_rfl) (by kernel_rfl) (fun _ _ _ h => h) (by rfl) ?_ (by assumption) ?_; rotate_left; (intro w hSw; (try dsimp only at hSw); go_simp; (first | done | with_reducible rfl)); (try simp only [Act.put, List.setIfInBounds_toArray, List.set_cons_zero, List.set_cons_succ]))
      (refine Ord.takeH 10 33 (v := ?_) rfl rfl (by kernel_rfl) (by kernel_rfl) (by kernel_rfl) (fun _ _ _ h => h) (by rfl) ?_ (by assumption) ?_; rotate_left; (intro w hSw; (try dsimp only at hSw); go_simp; (first | done | with_reducible rfl)); (try simp only [Act.put, List.setIfInBounds_toArray, List.set_cons_zero, List.set_cons_succ]))
      (refine Ord.takeH 11 34 (v := ?_) rfl rfl (by kernel_rfl) (by kernel_rfl) (by kernel_rfl) (fun _ _ _ h => h) (by rfl) ?_ (by assumption) ?_; rotate_left; (intro w hSw; (try dsimp only at hSw); go_simp; (first | done | with_reducible rfl)); (try simp only [Act.put, List.setIfInBounds_toArray, List.set_cons_zero, List.set_cons_succ]))
      (refine Ord.takeH 12 35 (v := ?_) rfl rfl (by kernel_rfl) (by kernel_rfl) (by kernel_rfl) (fun _ _ _ h => h) (by rfl) ?_ (by assumption) ?_; rotate_left; (intro w hSw; (try dsimp only at hSw); go_simp; (first | done | with_reducible rfl)); (try simp only [Act.put, List.setIfInBounds_toArray, List.set_cons_zero, List.set_cons_succ]))
      (refine Ord.takeH 14 37 (v := ?_) rfl rfl (by kernel_rfl) (by kernel_rfl) (by kernel_rfl) (fun _ _ _ h => h) (by rfl) ?_ (by assumption) ?_; rotate_left; (intro w hSw; (try dsimp only at hSw); go_simp; (first | done | with_reducible rfl)); (try simp only [Act.put, List.setIfInBounds_toArray, List.set_cons_zero, List.set_cons_succ]))
      (refine wpAnyH_ready (rs := [5]) (by kernel_rfl) (by simp) ?_; refine AllReadyH.cons rfl (fun K hK => ?_) AllReadyH.nil; go_simp; (first | (go_at_call 65; refine (point_spec _ _ _ _).mono ?_; rintro e w4 ⟨rfl, hy⟩) | (go_at_call 64; refine (sqFix _ _ _ _ CX.out.1 CX.out.2 (by first | exact okB_fx (HOK.out n hn1) | exact okB_fx (HOK.out m hm1))).mono ?_; rintro e w5 ⟨rfl, hy⟩)); go_wp2_with fail; (refine hK.out _ _ (by first | assumption | exact Ext.trans (by assumption) hy | exact Res.ext (by assumption) hy | exact ResB.ext (by assumption) hy | exact ResC.ext (by assumption) hy | (go_split_ands; (repeat' apply And.intro) <;> exact Ext.cellOf hy (by assumption))) (fun hHeld => ?_)); clear hK K; (try simp only [Act.put, List.setIfInBounds_toArray, List.set_cons_zero, List.set_cons_succ]))
      (refine wpAnyH_ready (rs := [7]) (by kernel_rfl) (by simp) ?_; refine AllReadyH.cons rfl (fun K hK => ?_) AllReadyH.nil; go_simp; (first | (go_at_call 65; refine (point_spec _ _ _ _).mono ?_; rintro e w4 ⟨rfl, hy⟩) | (go_at_call 64; refine (sqFix _ _ _ _ CX.out.1 CX.out.2 (by first | exact okB_fx (HOK.out n hn1) | exact okB_fx (HOK.out m hm1))).mono ?_; rintro e w5 ⟨rfl, hy⟩)); go_wp2_with fail; (refine hK.out _ _ (by first | assumption | exact Ext.trans (by assumption) hy | exact Res.ext (by assumption) hy | exact ResB.ext (by assumption) hy | exact ResC.ext (by assumption) hy | (go_split_ands; (repeat' apply And.intro) <;> exact Ext.cellOf hy (by assumption))) (fun hHeld => ?_)); clear hK K; (try simp only [Act.put, List.setIfInBounds_toArray, List.set_cons_zero, List.set_cons_succ]))
      (refine wpAnyH_ready (rs := [13]) (by kernel_rfl) (by simp) ?_; refine AllReadyH.cons rfl (fun K hK => ?_) AllReadyH.nil; go_simp; (first | (go_at_call 65; refine (point_spec _ _ _ _).mono ?_; rintro e w4 ⟨rfl, hy⟩) | (go_at_call 64; refine (sqFix _ _ _ _ CX.out.1 CX.out.2 (by first | exact okB_fx (HOK.out n hn1) | exact okB_fx (HOK.out m hm1))).mono ?_; rintro e w5 ⟨rfl, hy⟩)); go_wp2_with fail; (refine hK.out _ _ (by first | assumption | exact Ext.trans (by assumption) hy | exact Res.ext (by assumption) hy | exact ResB.ext (by assumption) hy | exact ResC.ext (by assumption) hy | (go_split_ands; (repeat' apply And.intro) <;> exact Ext.cellOf hy (by assumption))) (fun hHeld => ?_)); clear hK K; (try simp only [Act.put, List.setIfInBounds_toArray, List.set_cons_zero, List.set_cons_succ]))
      (refine wpAnyH_ready (rs := [15]) (by kernel_rfl) (by simp) ?_; refine AllReadyH.cons rfl (fun K hK => ?_) AllReadyH.nil; go_simp; (first | (go_at_call 65; refine (point_spec _ _ _ _).mono ?_; rintro e w4 ⟨rfl, hy⟩) | (go_at_call 64; refine (sqFix _ _ _ _ CX.out.1 CX.out.2 (by first | exact okB_fx (HOK.out n hn1) | exact okB_fx (HOK.out m hm1))).mono ?_; rintro e w5 ⟨rfl, hy⟩)); go_wp2_with fail; (refine hK.out _ _ (by first | assumption | exact Ext.trans (by assumption) hy | exact Res.ext (by assumption) hy | exact ResB.ext (by assumption) hy | exact ResC.ext (by assumption) hy | (go_split_ands; (repeat' apply And.intro) <;> exact Ext.cellOf hy (by assumption))) (fun hHeld => ?_)); clear hK K; (try simp only [Act.put, List.setIfInBounds_toArray, List.set_cons_zero, List.set_cons_succ]))
      (refine Ord.takeH 16 39 (v := ?_) rfl rfl (by kernel_rfl) (by kernel_rfl) (by kernel_rfl) (fun _ _ _ h => h) (by rfl) ?_ (by assumption) ?_; rotate_left; (intro w hSw; (try dsimp only at hSw); go_simp; (first | done | with_reducible rfl)); (try simp only [Act.put, List.setIfInBounds_toArray, List.set_cons_zero, List.set_cons_succ]))
      refine wpAnyH_done (by kernel_rfl) ?_ _
      have HX4 := Lib.hid (HX.out.trans (by assumption : Ext wr w5))
      rw [← HD.out.1, ← HD.out.2]
      by_cases hlt : dsI fs x y n < dsI fs x y m
      · have E := Lib.hid (show bst fs x y (n + 1) = n by rw [HS.out, if_pos hlt])
        clear f0 f1 f2 g0 g1 k0 k1 k2 ft
        go_wp2
        go_roundw
        case rel => exact ⟨n + 1, by go_num, by omega, by omega, by rw [E.out], HX4.out⟩
        case measure => simp [intOf]; omega
      · have E := Lib.hid (show bst fs x y (n + 1) = m by rw [HS.out, if_neg hlt])
        clear f0 f1 f2 g0 g1 k0 k1 k2 ft
        go_wp2
        go_roundw
        case rel => exact ⟨n + 1, by go_num, by omega, by omega, by rw [E.out], HX4.out⟩
        case measure => simp [intOf]; omega
    · obtain rfl : n = fs.length := by omega
      go_wp2
      rw [G.out, H.out]
      go_ret2
      exact ⟨rfl, X.out.trans HX.out⟩

end Go.Proofs.Ytjcfhonhcbdjdaa.Trk
