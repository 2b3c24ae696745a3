import Derived.Test.YtnjjmoefiacbhaaMLeg
import Derived.Test.YtnjjmoefiacbhaaSeg
import Derived.Test.YtnjjmoefiacbhaaRow
import Derived.Test.YtnjjmoefiacbhaaRes
import Derived.Test.YtnjjmoefiacbhaaOrd
import Derived.OwnWalk
import Derived.Laws.OwnMore
import Derived.IntWalk
import Derived.Deep.DeepCutAuto
namespace Go.Proofs.Ytnjjmoefiacbhaa.Trk
open Go.ChangeShapes Go.WideShapes Go.ChangeAt Go.RowKit
open Go.Proofs.Ytnjjmoefiacbhaa.Num Go.Proofs.Ytnjjmoefiacbhaa.Kit Go.Proofs.Ytnjjmoefiacbhaa.Pts Go.Proofs.Ytnjjmoefiacbhaa.Seg
set_option linter.unusedVariables false
set_option linter.unusedSimpArgs false
def lsF (fs : List F3) : F3 := fx fs (fs.length - 1)
def reF (fs gs : List F3) : List F3 := if eqF (fx gs 0) (lsF fs) = true then gs.tail else gs
def erB (fs gs : List F3) : Bool := !eqF (fx gs 0) (lsF fs) && decide ((fx gs 0).t ≤ (lsF fs).t)
def joC (fs gs : List F3) : Int := if trB fs = true ∧ trB gs = true then (if erB fs gs = true then 5 else if 40 < fs.length + (reF fs gs).length then 3 else 0) else 1
def joF (fs gs : List F3) : List F3 := if joC fs gs = 0 then fs ++ reF fs gs else []
theorem jo_one {fs gs : List F3} (h : ¬ (trB fs = true ∧ trB gs = true)) : joC fs gs = 1 ∧ joF fs gs = [] := by
  have e : joC fs gs = 1 := by unfold joC; rw [if_neg h]
  exact ⟨e, by unfold joF; rw [e]; rfl⟩
theorem jo_five {fs gs : List F3} (h : trB fs = true) (h2 : trB gs = true) (g : erB fs gs = true) : joC fs gs = 5 ∧ joF fs gs = [] := by
  have e : joC fs gs = 5 := by unfold joC; rw [if_pos ⟨h, h2⟩, if_pos g]
  exact ⟨e, by unfold joF; rw [e]; rfl⟩
theorem jo_three {fs gs : List F3} (h : trB fs = true) (h2 : trB gs = true) (g : erB fs gs = false) (k : 40 < fs.length + (reF fs gs).length) : joC fs gs = 3 ∧ joF fs gs = [] := by
  have e : joC fs gs = 3 := by unfold joC; rw [if_pos ⟨h, h2⟩, if_neg (by simp [g]), if_pos k]
  exact ⟨e, by unfold joF; rw [e]; rfl⟩
theorem jo_zero {fs gs : List F3} (h : trB fs = true) (h2 : trB gs = true) (g : erB fs gs = false) (k : ¬ 40 < fs.length + (reF fs gs).length) : joC fs gs = 0 ∧ joF fs gs = fs ++ reF fs gs := by
  have e : joC fs gs = 0 := by unfold joC; rw [if_pos ⟨h, h2⟩, if_neg (by simp [g]), if_neg k]
  exact ⟨e, by unfold joF; rw [if_pos e]⟩
theorem joF_len (fs gs : List F3) : (joF fs gs).length ≤ 40 := by
  unfold joF
  split
  · rename_i h
    unfold joC at h
    split at h
    · split at h
      · exact absurd h (by decide)
      · split at h
        · exact absurd h (by decide)
        · rename_i k; rw [List.length_append]; omega
    · exact absurd h (by decide)
  · simp
theorem fx_tail (fs : List F3) (i : Nat) : fx fs.tail i = fx fs (i + 1) := by
  unfold fx
  cases fs <;> simp
theorem at_tail {w : World} {b off : Nat} {fs : List F3} (h : ∀ i, i < fs.length → At w b (off + i * 3) (fx fs i)) : ∀ i, i < fs.tail.length → At w b (off + 3 + i * 3) (fx fs.tail i) := by
  intro i hi
  rw [fx_tail]
  have := h (i + 1) (by simp at hi; omega)
  rwa [show off + (i + 1) * 3 = off + 3 + i * 3 by omega] at this
theorem at_cells {w : World} {b off : Nat} {fs : List F3} (h : ∀ i, i < fs.length → At w b (off + i * 3) (fx fs i)) : ∀ (j : Nat) (u : Value), (cellsF fs)[j]? = some u → w.cell? ((⟨b, off, none⟩ : Addr).add j) = some u := by
  intro j u hu
  have hj : j < fs.length * 3 := by rw [← cellsF_len]; exact (List.getElem?_eq_some_iff.1 hu).1
  obtain ⟨c0, c1, c2⟩ := h (j / 3) (by omega)
  obtain ⟨d0, d1, d2⟩ := cellsF_get fs (j / 3) (by omega)
  rw [add_plain]
  rcases (show j = j / 3 * 3 ∨ j = j / 3 * 3 + 1 ∨ j = j / 3 * 3 + 2 by omega) with e | e | e
  · rw [e] at hu ⊢; rw [d0] at hu; cases hu; exact c0
  · rw [e] at hu ⊢; rw [d1] at hu; cases hu; rw [← Nat.add_assoc]; exact c1
  · rw [e] at hu ⊢; rw [d2] at hu; cases hu; rw [← Nat.add_assoc]; exact c2
theorem Fxs.row {w : World} {a : Option Addr} {fs : List F3} (h : Fxs w a fs) (h0 : 0 < fs.length) : ∃ b off, a = some ⟨b, off, none⟩ ∧ ∀ i, i < fs.length → At w b (off + i * 3) (fx fs i) := by
  rcases h.2 with e | e
  · rw [e] at h0; simp at h0
  · exact e
theorem eqF_no {f g : F3} (h : eqF f g = false) : (f.t == g.t) = false ∨ ((f.t == g.t) = true ∧ (f.x == g.x) = false) ∨ ((f.t == g.t) = true ∧ (f.x == g.x) = true ∧ (f.y == g.y) = false) := by
  unfold eqF at h
  cases h1 : f.t == g.t <;> cases h2 : f.x == g.x <;> cases h3 : f.y == g.y <;> simp_all
theorem eqF_yes {f g : F3} (h : eqF f g = true) : (f.t == g.t) = true ∧ (f.x == g.x) = true ∧ (f.y == g.y) = true := by
  unfold eqF at h
  simpa [Bool.and_eq_true] using h
set_option maxRecDepth 100000 in
set_option maxHeartbeats 4000000 in
theorem join_spec (a b : Option Addr) (cap cap' : Nat) (fs gs : List F3) (w : World) (ha : Fxs w a fs) (hb : Fxs w b gs) (hc' : gs.length ≤ cap') :
    Calls Try.prog 6 #[Tr (.slice a fs.length cap), Tr (.slice b gs.length cap')] w fun e w' => ∃ v, e = .returned (.tuple #[Tr v, .int .i64 (joC fs gs)]) ∧ OwnF w' w.heap.size v (joF fs gs) ∧ Ext w w' := by
  have hm := ha.1
  have hm2 := hb.1
  unfold maxLen at hm hm2
  obtain ⟨W0, hW0⟩ : ∃ W0, W0 = (w.alloc (.cells #[.slice a fs.length cap] 28)).alloc (.cells #[.slice b gs.length cap'] 28) := ⟨_, rfl⟩
  have HW := Lib.hid (show Ext w W0 from hW0 ▸ ((Ext.refl w).alloc _).alloc _)
  have HF := Lib.hid (ha.ext HW.out)
  have HG := Lib.hid (hb.ext HW.out)
  have bt : ∀ w', Ext W0 w' → w'.cell? ⟨w.heap.size, 0, none⟩ = some (.slice a fs.length cap) := fun w' h => h.cellOf (hW0 ▸ ((Ext.refl _).alloc _).cellOf (boxed 0 rfl rfl))
  have bu : ∀ w', Ext W0 w' → w'.cell? ⟨w.heap.size + 1, 0, none⟩ = some (.slice b gs.length cap') := fun w' h => h.cellOf (hW0 ▸ boxed 0 rfl (by simp))
  have hs0 : W0.heap.size = w.heap.size + 1 + 1 := by rw [hW0]; simp
  clear ha hb
  go_enter Try.func6, Try.ntmps6
  go_wp2_with fail
  refine (isTrack_spec _ _ _ _ (HF.out.ext (hW0 ▸ (Ext.refl _).alloc _))).mono ?_
  cases hv : trB fs
  · have H := Lib.hid (jo_one (fs := fs) (gs := gs) (by simp [hv]))
    rintro e w1 ⟨rfl, h⟩
    rw [← hW0] at h
    have X := Lib.hid (((Ext.refl W0).alloc _).trans h)
    obtain ⟨r0, rf⟩ := ((Box.new (w := W0) (vs := [.slice none 0 0]) (t := 28) rfl).ext h) 0 _ rfl
    rw [hs0] at r0 rf
    clear h
    go_wp2
    have g0 : (w1.setCell ⟨w.heap.size + 1 + 1, 0, none⟩ (.slice none 0 0)).cell? ⟨w.heap.size + 1 + 1, 0, none⟩ = some (.slice none 0 0) := World.cell?_setCell_same _ _ _ r0
    rw [H.out.1, H.out.2]
    exact bodyPost_ret (v := .tuple #[Tr (.slice none 0 0), .int .i64 1]) (by simp [results, Try.results6, go_sem, g0]) rfl ⟨_, rfl, OwnF.nil _ _, HW.out.trans (X.out.setNew (p := ⟨w.heap.size + 1 + 1, 0, none⟩) (by simp [hs0]) _)⟩
  rintro e w1 ⟨rfl, h⟩
  rw [← hW0] at h
  have X := Lib.hid (((Ext.refl W0).alloc _).trans h)
  have R := Lib.hid ((Box.new (w := W0) (vs := [.slice none 0 0]) (t := 28) rfl).ext h)
  rw [hs0] at R
  have b1 := bu _ X.out
  clear h
  go_wp2_with fail
  refine (isTrack_spec _ _ _ _ (HG.out.ext X.out)).mono ?_
  cases hu : trB gs
  · have H := Lib.hid (jo_one (fs := fs) (gs := gs) (by simp [hu]))
    rintro e w2 ⟨rfl, h⟩
    replace X := Lib.hid (X.out.trans h)
    obtain ⟨r0, rf⟩ := (R.out.ext h) 0 _ rfl
    clear h b1 R
    go_wp2
    have g0 : (w2.setCell ⟨w.heap.size + 1 + 1, 0, none⟩ (.slice none 0 0)).cell? ⟨w.heap.size + 1 + 1, 0, none⟩ = some (.slice none 0 0) := World.cell?_setCell_same _ _ _ r0
    rw [H.out.1, H.out.2]
    exact bodyPost_ret (v := .tuple #[Tr (.slice none 0 0), .int .i64 1]) (by simp [results, Try.results6, go_sem, g0]) rfl ⟨_, rfl, OwnF.nil _ _, HW.out.trans (X.out.setNew (p := ⟨w.heap.size + 1 + 1, 0, none⟩) (by simp [hs0]) _)⟩
  rintro e w2 ⟨rfl, h⟩
  replace X := Lib.hid (X.out.trans h)
  replace R := Lib.hid (R.out.ext h)
  clear h b1
  obtain ⟨⟨f2, f40⟩, _⟩ := trB_yes hv
  obtain ⟨⟨g2, g40⟩, _⟩ := trB_yes hu
  obtain ⟨b0, o0, rfl, hA⟩ := HF.out.row (by omega)
  obtain ⟨b1, o1, rfl, hB⟩ := HG.out.row (by omega)
  have HA := Lib.hid hA
  have HB := Lib.hid hB
  clear hA hB
  obtain ⟨c0, c1, c2⟩ := (HA.out (fs.length - 1) (by omega)).ext X.out
  obtain ⟨d0, d1, d2⟩ := (HB.out 0 (by omega)).ext X.out
  rw [Nat.zero_mul, Nat.add_zero] at d0 d1 d2
  have u1 := bt _ X.out
  have u2 := bu _ X.out
  have i0 : (0 : Int) ≤ (fs.length : Int) - 1 := by omega
  have i2 : (1 : Int) ≤ (fs.length : Int) := by omega
  have i1 : (fs.length : Int) - 1 < (fs.length : Int) := by omega
  have T0 : IntKind.i64.wrap ((fs.length : Int) - 1) = (fs.length : Int) - 1 := wrap_pred (by omega) (by unfold maxLen; omega)
  have T1 : ((fs.length : Int) - 1).toNat = fs.length - 1 := by omega
  have i3 : (0 : Int) < (gs.length : Int) := by omega
  have i4 : 0 < gs.length := by omega
  replace u2 := one_on u2
  go_upto_region 5 with fail
  obtain ⟨w3, hw3⟩ : ∃ w3, w3 = w2.alloc (.cells #[.int .i64 (fx fs (fs.length - 1)).t, .int .i64 (fx fs (fs.length - 1)).x, .int .i64 (fx fs (fs.length - 1)).y] 45) := ⟨_, rfl⟩
  have h23 : Ext w2 w3 := hw3 ▸ (Ext.refl _).alloc _
  have e0 : ∀ w', Ext w3 w' → w'.cell? ⟨w2.heap.size, 0, none⟩ = some (.int .i64 (fx fs (fs.length - 1)).t) := fun w' h => h.cellOf (hw3 ▸ boxed 0 rfl rfl)
  have e1 : ∀ w', Ext w3 w' → w'.cell? ⟨w2.heap.size, 1, none⟩ = some (.int .i64 (fx fs (fs.length - 1)).x) := fun w' h => h.cellOf (hw3 ▸ boxed 1 rfl rfl)
  have e2 : ∀ w', Ext w3 w' → w'.cell? ⟨w2.heap.size, 2, none⟩ = some (.int .i64 (fx fs (fs.length - 1)).y) := fun w' h => h.cellOf (hw3 ▸ boxed 2 rfl rfl)
  replace d0 : ∀ w', Ext w3 w' → w'.cell? ⟨b1, o1, none⟩ = some (.int .i64 (fx gs 0).t) := fun w' h => (h23.trans h).cellOf d0
  replace d1 : ∀ w', Ext w3 w' → w'.cell? ⟨b1, o1 + 1, none⟩ = some (.int .i64 (fx gs 0).x) := fun w' h => (h23.trans h).cellOf d1
  replace d2 : ∀ w', Ext w3 w' → w'.cell? ⟨b1, o1 + 2, none⟩ = some (.int .i64 (fx gs 0).y) := fun w' h => (h23.trans h).cellOf d2
  replace R := Lib.hid (R.out.ext h23)
  replace X := Lib.hid (X.out.trans h23)
  rw [← hw3]
  clear hw3 h23 c0 c1 c2 u1 u2
  go_cut [31] (fun s wx => s = .bool (eqF (fx gs 0) (fx fs (fs.length - 1))) ∧ Ext w3 wx)
  case first =>
    cases hq : eqF (fx gs 0) (fx fs (fs.length - 1))
    · rcases eqF_no hq with q | ⟨q, q2⟩ | ⟨q, q2, q3⟩
      all_goals
        replace hq := Lib.hid hq
        refine wp_region_held_drew (S := (fun w' => Ext w3 w')) (by kernel_rfl) (by (try dsimp only); first | go_keep | exact (Ext.refl _).drew | exact Res.new2.drew | exact Res.new4.drew | exact ResB.drew (by assumption) | exact ResC.drew (by assumption) | assumption | exact Ext.drew (by assumption) | exact Res.drew (by assumption)) (fun hHeld => ?_)
        (refine Ord.k 0 27 (v := ?_) ?_ ?_; rotate_left; (intro w h; (try dsimp only at h); go_simp; (try with_reducible rfl)); (try simp only [Act.put, Ord.a, Ord.b, Ord.c]))
        (refine Ord.k 1 28 (v := ?_) ?_ ?_; rotate_left; (intro w h; (try dsimp only at h); go_simp; (try with_reducible rfl)); (try simp only [Act.put, Ord.a, Ord.b, Ord.c]))
        (refine Ord.k 2 29 (v := ?_) ?_ ?_; rotate_left; (intro w h; (try dsimp only at h); go_simp; (try with_reducible rfl)); (try simp only [Act.put, Ord.a, Ord.b, Ord.c]))
        (refine Ord.k 3 30 (v := ?_) ?_ ?_; rotate_left; (intro w h; (try dsimp only at h); go_simp; (try with_reducible rfl)); (try simp only [Act.put, Ord.a, Ord.b, Ord.c]))
        (refine Ord.k 4 31 (v := ?_) ?_ ?_; rotate_left; (intro w h; (try dsimp only at h); go_simp; (try with_reducible rfl)); (try simp only [Act.put, Ord.a, Ord.b, Ord.c]))
        refine wpAnyH_done (by kernel_rfl) ?_ _
        go_wp2_with fail
        go_meet
        exact ⟨by rw [hq.out], by assumption⟩
    · obtain ⟨q, q2, q3⟩ := eqF_yes hq
      replace hq := Lib.hid hq
      refine wp_region_held_drew (S := (fun w' => Ext w3 w')) (by kernel_rfl) (by (try dsimp only); first | go_keep | exact (Ext.refl _).drew | exact Res.new2.drew | exact Res.new4.drew | exact ResB.drew (by assumption) | exact ResC.drew (by assumption) | assumption | exact Ext.drew (by assumption) | exact Res.drew (by assumption)) (fun hHeld => ?_)
      (refine Ord.k 0 27 (v := ?_) ?_ ?_; rotate_left; (intro w h; (try dsimp only at h); go_simp; (try with_reducible rfl)); (try simp only [Act.put, Ord.a, Ord.b, Ord.c]))
      (refine Ord.k 1 28 (v := ?_) ?_ ?_; rotate_left; (intro w h; (try dsimp only at h); go_simp; (try with_reducible rfl)); (try simp only [Act.put, Ord.a, Ord.b, Ord.c]))
      (refine Ord.k 2 29 (v := ?_) ?_ ?_; rotate_left; (intro w h; (try dsimp only at h); go_simp; (try with_reducible rfl)); (try simp only [Act.put, Ord.a, Ord.b, Ord.c]))
      (refine Ord.k 3 30 (v := ?_) ?_ ?_; rotate_left; (intro w h; (try dsimp only at h); go_simp; (try with_reducible rfl)); (try simp only [Act.put, Ord.a, Ord.b, Ord.c]))
      (refine Ord.k 4 31 (v := ?_) ?_ ?_; rotate_left; (intro w h; (try dsimp only at h); go_simp; (try with_reducible rfl)); (try simp only [Act.put, Ord.a, Ord.b, Ord.c]))
      refine wpAnyH_done (by kernel_rfl) ?_ _
      go_wp2_with fail
      go_meet
      exact ⟨by rw [hq.out], by assumption⟩
  case rest =>
    obtain ⟨rfl, hx⟩ := hcut
    have e3 : ∀ w', Ext w3 w' → w'.cell? ⟨w.heap.size, 0, none⟩ = some (.slice (some ⟨b0, o0, none⟩) fs.length cap) := fun w' h => bt _ (X.out.trans h)
    obtain ⟨g1, g2'⟩ : (fs.length : Int) ≤ 40 ∧ (gs.length : Int) ≤ 40 := by omega
    have hxd := hx.drew
    have nc : ¬ cap' = 1 := by omega
    have nc2 : (1 : Int) ≤ (gs.length : Int) := by omega
    cases hq : eqF (fx gs 0) (fx fs (fs.length - 1))
    · have hr : reF fs gs = gs := by unfold reF lsF; rw [hq]; rfl
      go_wp2_with fail
      refine wp_region_held_drew (S := (fun w' => Ext w3 w')) (by kernel_rfl) (by (try dsimp only); first | go_keep | exact (Ext.refl _).drew | exact Res.new2.drew | exact Res.new4.drew | exact ResB.drew (by assumption) | exact ResC.drew (by assumption) | assumption | exact Ext.drew (by assumption) | exact Res.drew (by assumption)) (fun hHeld => ?_)
      (refine Ord.k 0 34 (v := ?_) ?_ ?_; rotate_left; (intro w h; (try dsimp only at h); go_simp; (try with_reducible rfl)); (try simp only [Act.put, Ord.a, Ord.b, Ord.c]))
      (refine Ord.k 1 35 (v := ?_) ?_ ?_; rotate_left; (intro w h; (try dsimp only at h); go_simp; (try with_reducible rfl)); (try simp only [Act.put, Ord.a, Ord.b, Ord.c]))
      (refine Ord.k 2 36 (v := ?_) ?_ ?_; rotate_left; (intro w h; (try dsimp only at h); go_simp; (try with_reducible rfl)); (try simp only [Act.put, Ord.a, Ord.b, Ord.c]))
      (refine Ord.k 3 37 (v := ?_) ?_ ?_; rotate_left; (intro w h; (try dsimp only at h); go_simp; (try with_reducible rfl)); (try simp only [Act.put, Ord.a, Ord.b, Ord.c]))
      (refine Ord.k 4 38 (v := ?_) ?_ ?_; rotate_left; (intro w h; (try dsimp only at h); go_simp; (try with_reducible rfl)); (try simp only [Act.put, Ord.a, Ord.b, Ord.c]))
      (refine Ord.k 5 39 (v := ?_) ?_ ?_; rotate_left; (intro w h; (try dsimp only at h); go_simp; (try with_reducible rfl)); (try simp only [Act.put, Ord.a, Ord.b, Ord.c]))
      (refine Ord.k 6 40 (v := ?_) ?_ ?_; rotate_left; (intro w h; (try dsimp only at h); go_simp; (try with_reducible rfl)); (try simp only [Act.put, Ord.a, Ord.b, Ord.c]))
      refine wpAnyH_done (by kernel_rfl) ?_ _
      clear hxd hx
      generalize wc.drew = w4 at *
      have X4 := Lib.hid (X.out.trans hHeld)
      have HX4 := Lib.hid hHeld
      have u1 := bt _ X4.out
      obtain ⟨r0, rf⟩ := (R.out.ext hHeld) 0 _ rfl
      by_cases ht : (fx gs 0).t ≤ (fx fs (fs.length - 1)).t
      · have H := Lib.hid (jo_five (fs := fs) (gs := gs) hv hu (by unfold erB lsF; rw [hq]; simpa using ht))
        go_wp2
        have g0 : (w4.setCell ⟨w.heap.size + 1 + 1, 0, none⟩ (.slice none 0 0)).cell? ⟨w.heap.size + 1 + 1, 0, none⟩ = some (.slice none 0 0) := World.cell?_setCell_same _ _ _ r0
        rw [H.out.1, H.out.2]
        exact bodyPost_ret (v := .tuple #[Tr (.slice none 0 0), .int .i64 5]) (by simp [results, Try.results6, go_sem, g0]) rfl ⟨_, rfl, OwnF.nil _ _, HW.out.trans (X4.out.setNew (p := ⟨w.heap.size + 1 + 1, 0, none⟩) (by simp [hs0]) _)⟩
      · have HN := Lib.hid (show erB fs gs = false by unfold erB lsF; rw [hq]; simpa using ht)
        by_cases hl : (40 : Int) < (fs.length : Int) + (gs.length : Int)
        · have H := Lib.hid (jo_three (fs := fs) (gs := gs) hv hu HN.out (by rw [hr]; omega))
          go_wp2
          have g0 : (w4.setCell ⟨w.heap.size + 1 + 1, 0, none⟩ (.slice none 0 0)).cell? ⟨w.heap.size + 1 + 1, 0, none⟩ = some (.slice none 0 0) := World.cell?_setCell_same _ _ _ r0
          rw [H.out.1, H.out.2]
          exact bodyPost_ret (v := .tuple #[Tr (.slice none 0 0), .int .i64 3]) (by simp [results, Try.results6, go_sem, g0]) rfl ⟨_, rfl, OwnF.nil _ _, HW.out.trans (X4.out.setNew (p := ⟨w.heap.size + 1 + 1, 0, none⟩) (by simp [hs0]) _)⟩
        · have H := Lib.hid (jo_zero (fs := fs) (gs := gs) hv hu HN.out (by rw [hr]; omega))
          rw [hr] at H
          have u1a := one_on u1
          have z4 := World.block_lt_of_cell? w4 _ r0
          obtain ⟨i0', hin, hz0', hz1', hz2'⟩ := info_parts fixInfo
          have O0 : OwnF (w4.alloc (.cells #[] 45)) w4.heap.size (.slice (some ⟨w4.heap.size, 0, none⟩) 0 0) [] := World.ownsRow_lit (base := w4.heap.size) (e := 45) (size := 3) w4 #[] 0 (by omega) (by unfold maxLen; omega) rfl
          have HT := Lib.hid (HB.out)
          have RB := Lib.hid (R.out.ext HX4.out)
          have X5 := Lib.hid (X4.out.alloc (.cells #[] 45))
          have C1 := Lib.hid (at_cells (fun i hi => (HA.out i hi).ext X5.out))
          have P15 := Lib.hid (show w4.heap.size ≤ (w4.alloc (.cells #[] 45)).heap.size by simp)
          have P11 := Lib.hid (cellsF_one fs)
          have P12 := Lib.hid (show (cellsF fs).length = fs.length * 3 from cellsF_len _)
          have P13 := Lib.hid (show 0 + fs.length ≤ maxLen by unfold maxLen; omega)
          have P14 := Lib.hid (show (0 + fs.length) * 24 ≤ 140737488355328 by omega)
          have P21 := Lib.hid (cellsF_one gs)
          have P22 := Lib.hid (show (cellsF gs).length = gs.length * 3 from (cellsF_len _))
          have P23 := Lib.hid (show fs.length + gs.length ≤ maxLen by unfold maxLen; omega)
          have P24 := Lib.hid (show (fs.length + gs.length) * 24 ≤ 140737488355328 by omega)
          go_wp2_with (at_builtin; first | (refine wpList_append_own _ rfl _ _ 26 rfl w4.heap.size 45 i0' (Fx 0 0 0) 3 24 Try.underlying26 hin hz0' hz1' hz2' rfl (by decide) (.slice (some ⟨w4.heap.size, 0, none⟩) 0 0) 0 [] rfl O0 ⟨b0, o0, none⟩ fs.length _ (cellsF fs) rfl P12.out C1.out P11.out P13.out P14.out P15.out ?_; intro v1 w5 hown1 hgrow1 hnil1; have O5 : OwnF w5 w4.heap.size v1 fs := (by simpa [OwnF] using hown1); have X6 := Lib.hid (grown_ext (w0 := w4) O0 hgrow1 (Nat.le_refl _) ((Ext.refl w4).alloc _)); have z5 := Below.size X6.out; have C2 := Lib.hid (at_cells (fun i hi => (HT.out i hi).ext (X4.out.trans X6.out))); clear hown1 hgrow1 hnil1 O0) | (refine wpList_append_own _ rfl _ _ 26 rfl w4.heap.size 45 i0' (Fx 0 0 0) 3 24 Try.underlying26 hin hz0' hz1' hz2' rfl (by decide) v1 fs.length (cellsF fs) rfl O5 ⟨b1, o1, none⟩ gs.length _ (cellsF gs) rfl P22.out C2.out P21.out P23.out P24.out z5 ?_; intro v2 w6 hown2 hgrow2 hnil2; have O6 : OwnF w6 w4.heap.size v2 (fs ++ gs) := (by simpa [OwnF, cellsF_app2] using hown2); have X7 := Lib.hid (grown_ext (w0 := w4) O5 hgrow2 (Nat.le_refl _) X6.out); (obtain ⟨a6, cap6, rfl, hc6, hF6, _⟩ := O6.fxs); replace O6 := Lib.hid O6; obtain ⟨q0, qf⟩ := (Box.ext RB.out X7.out) 0 _ rfl; clear hown2 hgrow2 hnil2 O5))
          have z4 := World.block_lt_of_cell? w4 _ r0
          simp at z4
          have eL : (fs ++ gs).length = fs.length + gs.length := by simp
          have O7 := O6.out
          rw [eL] at O7
          have OF := OwnF.mono (b2 := w.heap.size) (O7.chg ((Chg.refl (w.heap.size + 1 + 1) _).setCell 0 (.slice a6 (fs.length + gs.length) cap6)) (O7.block (by omega))) (by omega)
          have g0 : (w6.setCell ⟨w.heap.size + 1 + 1, 0, none⟩ (.slice a6 (fs.length + gs.length) cap6)).cell? ⟨w.heap.size + 1 + 1, 0, none⟩ = some (.slice a6 (fs.length + gs.length) cap6) := World.cell?_setCell_same _ _ _ q0
          have XF := HW.out.trans ((X4.out.trans X7.out).setNew (p := ⟨w.heap.size + 1 + 1, 0, none⟩) (by simp [hs0]) (.slice a6 (fs.length + gs.length) cap6))
          rw [H.out.1, H.out.2]
          clear O6 O7 eL X7 hc6 hF6 P13 P14 P23 P24
          generalize fs.length + gs.length = L at *
          exact bodyPost_ret (v := .tuple #[Tr (.slice a6 L cap6), .int .i64 0]) (by simp [results, Try.results6, go_sem, g0]) rfl ⟨_, rfl, OF, XF⟩
    · have hr : reF fs gs = gs.tail := by unfold reF lsF; rw [hq]; rfl
      have HN := Lib.hid (show erB fs gs = false by unfold erB lsF; rw [hq]; rfl)
      have htl : gs.tail.length = gs.length - 1 := by simp
      clear hxd
      obtain ⟨w4, rfl⟩ : ∃ w4, w4 = wc := ⟨_, rfl⟩
      have X4 := Lib.hid (X.out.trans hx)
      have HX4 := Lib.hid hx
      have u1 := bt _ X4.out
      obtain ⟨r0, rf⟩ := (R.out.ext hx) 0 _ rfl
      have cl : (((gs.length - 1 : Nat)) : Int) = (gs.length : Int) - 1 := by omega
      by_cases hl : (40 : Int) < (fs.length : Int) + ((gs.length - 1 : Nat) : Int)
      · have H := Lib.hid (jo_three (fs := fs) (gs := gs) hv hu HN.out (by rw [hr]; omega))
        go_wp2
        have g0 : (w4.setCell ⟨w.heap.size + 1 + 1, 0, none⟩ (.slice none 0 0)).cell? ⟨w.heap.size + 1 + 1, 0, none⟩ = some (.slice none 0 0) := World.cell?_setCell_same _ _ _ r0
        rw [H.out.1, H.out.2]
        exact bodyPost_ret (v := .tuple #[Tr (.slice none 0 0), .int .i64 3]) (by simp [results, Try.results6, go_sem, g0]) rfl ⟨_, rfl, OwnF.nil _ _, HW.out.trans (X4.out.setNew (p := ⟨w.heap.size + 1 + 1, 0, none⟩) (by simp [hs0]) _)⟩
      · have H := Lib.hid (jo_zero (fs := fs) (gs := gs) hv hu HN.out (by rw [hr]; omega))
        rw [hr] at H
        have u1a := one_on u1
        have z4 := World.block_lt_of_cell? w4 _ r0
        obtain ⟨i0', hin, hz0', hz1', hz2'⟩ := info_parts fixInfo
        have O0 : OwnF (w4.alloc (.cells #[] 45)) w4.heap.size (.slice (some ⟨w4.heap.size, 0, none⟩) 0 0) [] := World.ownsRow_lit (base := w4.heap.size) (e := 45) (size := 3) w4 #[] 0 (by omega) (by unfold maxLen; omega) rfl
        have HT := Lib.hid (at_tail HB.out)
        have RB := Lib.hid (R.out.ext HX4.out)
        have X5 := Lib.hid (X4.out.alloc (.cells #[] 45))
        have C1 := Lib.hid (at_cells (fun i hi => (HA.out i hi).ext X5.out))
        have P15 := Lib.hid (show w4.heap.size ≤ (w4.alloc (.cells #[] 45)).heap.size by simp)
        have P11 := Lib.hid (cellsF_one fs)
        have P12 := Lib.hid (show (cellsF fs).length = fs.length * 3 from cellsF_len _)
        have P13 := Lib.hid (show 0 + fs.length ≤ maxLen by unfold maxLen; omega)
        have P14 := Lib.hid (show (0 + fs.length) * 24 ≤ 140737488355328 by omega)
        have P21 := Lib.hid (cellsF_one gs.tail)
        have P22 := Lib.hid (show (cellsF gs.tail).length = (gs.length - 1) * 3 from (by rw [cellsF_len, htl]))
        have P23 := Lib.hid (show fs.length + (gs.length - 1) ≤ maxLen by unfold maxLen; omega)
        have P24 := Lib.hid (show (fs.length + (gs.length - 1)) * 24 ≤ 140737488355328 by omega)
        go_wp2_with (at_builtin; first | (refine wpList_append_own _ rfl _ _ 26 rfl w4.heap.size 45 i0' (Fx 0 0 0) 3 24 Try.underlying26 hin hz0' hz1' hz2' rfl (by decide) (.slice (some ⟨w4.heap.size, 0, none⟩) 0 0) 0 [] rfl O0 ⟨b0, o0, none⟩ fs.length _ (cellsF fs) rfl P12.out C1.out P11.out P13.out P14.out P15.out ?_; intro v1 w5 hown1 hgrow1 hnil1; have O5 : OwnF w5 w4.heap.size v1 fs := (by simpa [OwnF] using hown1); have X6 := Lib.hid (grown_ext (w0 := w4) O0 hgrow1 (Nat.le_refl _) ((Ext.refl w4).alloc _)); have z5 := Below.size X6.out; have C2 := Lib.hid (at_cells (fun i hi => (HT.out i hi).ext (X4.out.trans X6.out))); clear hown1 hgrow1 hnil1 O0) | (refine wpList_append_own _ rfl _ _ 26 rfl w4.heap.size 45 i0' (Fx 0 0 0) 3 24 Try.underlying26 hin hz0' hz1' hz2' rfl (by decide) v1 fs.length (cellsF fs) rfl O5 ⟨b1, o1 + 3, none⟩ (gs.length - 1) _ (cellsF gs.tail) rfl P22.out C2.out P21.out P23.out P24.out z5 ?_; intro v2 w6 hown2 hgrow2 hnil2; have O6 : OwnF w6 w4.heap.size v2 (fs ++ gs.tail) := (by simpa [OwnF, cellsF_app2] using hown2); have X7 := Lib.hid (grown_ext (w0 := w4) O5 hgrow2 (Nat.le_refl _) X6.out); (obtain ⟨a6, cap6, rfl, hc6, hF6, _⟩ := O6.fxs); replace O6 := Lib.hid O6; obtain ⟨q0, qf⟩ := (Box.ext RB.out X7.out) 0 _ rfl; clear hown2 hgrow2 hnil2 O5))
        have z4 := World.block_lt_of_cell? w4 _ r0
        simp at z4
        have eL : (fs ++ gs.tail).length = fs.length + (gs.length - 1) := by simp
        have O7 := O6.out
        rw [eL] at O7
        have OF := OwnF.mono (b2 := w.heap.size) (O7.chg ((Chg.refl (w.heap.size + 1 + 1) _).setCell 0 (.slice a6 (fs.length + (gs.length - 1)) cap6)) (O7.block (by omega))) (by omega)
        have g0 : (w6.setCell ⟨w.heap.size + 1 + 1, 0, none⟩ (.slice a6 (fs.length + (gs.length - 1)) cap6)).cell? ⟨w.heap.size + 1 + 1, 0, none⟩ = some (.slice a6 (fs.length + (gs.length - 1)) cap6) := World.cell?_setCell_same _ _ _ q0
        have XF := HW.out.trans ((X4.out.trans X7.out).setNew (p := ⟨w.heap.size + 1 + 1, 0, none⟩) (by simp [hs0]) (.slice a6 (fs.length + (gs.length - 1)) cap6))
        rw [H.out.1, H.out.2]
        clear O6 O7 eL X7 hc6 hF6 P13 P14 P23 P24
        generalize fs.length + (gs.length - 1) = L at *
        exact bodyPost_ret (v := .tuple #[Tr (.slice a6 L cap6), .int .i64 0]) (by simp [results, Try.results6, go_sem, g0]) rfl ⟨_, rfl, OF, XF⟩
end Go.Proofs.Ytnjjmoefiacbhaa.Trk
