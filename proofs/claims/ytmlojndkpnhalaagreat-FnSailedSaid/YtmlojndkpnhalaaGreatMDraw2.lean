import Derived.Test.YtmlojndkpnhalaaGreatDraw
import Derived.Test.YtmlojndkpnhalaaGreatMPts
import Derived.Outline
import Derived.Deep.RegionLaw
import Derived.Test.YtmlojndkpnhalaaGreatMKit
import Derived.BigRegion
namespace Go.Proofs.YtmlojndkpnhalaaGreat.Draw
open Go.ChangeShapes Go.WideShapes Go.ChangeAt Go.RowKit
open Go.Proofs.YtmlojndkpnhalaaGreat.Num Go.Proofs.YtmlojndkpnhalaaGreat.Kit Go.Proofs.YtmlojndkpnhalaaGreat.Pts
set_option linter.unusedVariables false
def APt (B : Nat) (w : World) (e : Ending) (w' : World) : Prop := ∃ x y : Int, e = .returned (Pt x y) ∧ (-1000001 ≤ x ∧ x ≤ 1000001) ∧ (-1000001 ≤ y ∧ y ≤ 1000001) ∧ Src w' B ∧ Chg B w w'
theorem bd3 {v x y z : Int} (h : v = x ∨ v = y ∨ v = z) (hx : -1000001 ≤ x ∧ x ≤ 1000001) (hy : -1000001 ≤ y ∧ y ≤ 1000001) (hz : -1000001 ≤ z ∧ z ≤ 1000001) : -1000001 ≤ v ∧ v ≤ 1000001 := by omega
theorem set_c0 {W : World} {n : Nat} {x y u : Value} (k0 : W.cell? ⟨n, 0, none⟩ = some u) : ((W.setCell ⟨n, 0, none⟩ x).setCell ⟨n, 1, none⟩ y).cell? ⟨n, 0, none⟩ = some x := by
  rw [World.cell?_setCell_other _ _ _ _ (by simp)]; exact World.cell?_setCell_same _ _ _ k0
theorem set_c1 {W : World} {n : Nat} {x y u : Value} (k1 : W.cell? ⟨n, 1, none⟩ = some u) : ((W.setCell ⟨n, 0, none⟩ x).setCell ⟨n, 1, none⟩ y).cell? ⟨n, 1, none⟩ = some y :=
  World.cell?_setCell_same (u := u) _ _ _ (by rw [World.cell?_setCell_other _ _ _ _ (by simp)]; exact k1)
theorem pt_done {B n : Nat} {w F : World} {tmps : Array Value} {x y : Int} (c0 : F.cell? ⟨n, 0, none⟩ = some (.int .i64 x)) (c1 : F.cell? ⟨n, 1, none⟩ = some (.int .i64 y)) (hs : Src F B) (hC : Chg B w F)
    (hx : -1000001 ≤ x ∧ x ≤ 1000001) (hy : -1000001 ≤ y ∧ y ≤ 1000001) (ha : tmps[2]? = some (.pointer (some ⟨n, 0, none⟩))) :
    bodyPost Tryz.prog Tryz.f127 (APt B w) Exit.ret ⟨tmps, []⟩ F :=
  bodyPost_ret (v := Pt x y) (by simp [results, Tryz.results127, go_sem, ha, c0, c1]) rfl ⟨x, y, rfl, hx, hy, hs, hC⟩
set_option maxHeartbeats 2000000 in
theorem drawPoint_any (B : Nat) (w : World) (hs : Src w B) : Calls Tryz.prog 127 #[.pointer (some ⟨B, 0, none⟩)] w (APt B w) := by
  have hB := hs.lt
  have hn0 : w.heap.size ≠ B := by omega
  go_enter Tryz.func127, Tryz.ntmps127
  go_wp2_with fail
  refine (next_pos _ _ _ (by repeat (first | with_reducible assumption | with_reducible apply Src.alloc | with_reducible apply Src.drew | with_reducible apply Src.drewN)) (by omega)).mono ?_
  rintro e w2 ⟨r, rfl, r0, r1, hs2, hc⟩
  have hz := hc.size
  simp at hz
  have hz0 : w.heap.size < w2.heap.size := by omega
  have hn := Nat.ne_of_gt hs2.lt
  by_cases hr : r = 0
  · have k0 : w2.cell? ⟨w.heap.size, 0, none⟩ = some (.int .i64 0) := hc.cellOf hn0 (boxed 0 rfl rfl)
    have k1 : w2.cell? ⟨w.heap.size, 1, none⟩ = some (.int .i64 0) := hc.cellOf hn0 (boxed 1 rfl rfl)
    have k2 : w2.frozen? ⟨w.heap.size, 0, none⟩ = false := (hc.frozenOf hn0 (by simp)).trans (thawed 0 rfl)
    have k3 : w2.frozen? ⟨w.heap.size, 1, none⟩ = false := (hc.frozenOf hn0 (by simp)).trans (thawed 1 rfl)
    have hr1 : (r == 0) = true := beq_iff_eq.2 hr
    clear hr
    have hn1 : w2.heap.size + 1 ≠ B := by have := hs2.lt; omega
    have y6 : w.heap.size < w2.heap.size + 1 := by omega
    have y7 : w.heap.size < w2.heap.size + 1 + 1 := by omega
    obtain ⟨v0, rfl⟩ : ∃ v0 : World, v0 = w2 := ⟨_, rfl⟩
    go_wp2_with fail
    go_region_law (first | (go_simp; go_at_call 68; refine (next_pos _ _ _ (by repeat (first | with_reducible assumption | with_reducible apply Src.alloc | with_reducible apply Src.drew | with_reducible apply Src.drewN)) (by omega)).mono ?_; rintro e w2 ⟨r, rfl, r0, r1, hs2, hc⟩; replace k2 := hc.thawOf (a := ⟨w.heap.size, 0, none⟩) hn0 (Ext.cellOf (by repeat (first | exact Ext.refl _ | with_reducible apply Ext.alloc | with_reducible apply Ext.drew)) k0) (Ext.thawOf (by repeat (first | exact Ext.refl _ | with_reducible apply Ext.alloc | with_reducible apply Ext.drew)) k0 k2); replace k3 := hc.thawOf (a := ⟨w.heap.size, 1, none⟩) hn0 (Ext.cellOf (by repeat (first | exact Ext.refl _ | with_reducible apply Ext.alloc | with_reducible apply Ext.drew)) k1) (Ext.thawOf (by repeat (first | exact Ext.refl _ | with_reducible apply Ext.alloc | with_reducible apply Ext.drew)) k1 k3); replace k0 := hc.cellOf (a := ⟨w.heap.size, 0, none⟩) hn0 (Ext.cellOf (by repeat (first | exact Ext.refl _ | with_reducible apply Ext.alloc | with_reducible apply Ext.drew)) k0); replace k1 := hc.cellOf (a := ⟨w.heap.size, 1, none⟩) hn0 (Ext.cellOf (by repeat (first | exact Ext.refl _ | with_reducible apply Ext.alloc | with_reducible apply Ext.drew)) k1); have hcf := hc.facts.1; have hz := hc.size; (try simp at hz); have hz0 : w.heap.size < w2.heap.size := (by omega); have hn := Nat.ne_of_gt hs2.lt; have hn1 : w2.heap.size + 1 ≠ B := (by have := hs2.lt; omega); (try (have hz9 := Nat.lt_of_succ_le hz)); (try (have hz8 := Nat.lt_of_succ_lt (Nat.lt_of_succ_le hz))); have y6 : w.heap.size < w2.heap.size + 1 := (by omega); have y7 : w.heap.size < w2.heap.size + 1 + 1 := (by omega); (try (have y1 : v0.heap.size < w2.heap.size := by omega)); (try (have y2 : v0.heap.size < w2.heap.size + 1 := by omega)); (try (have y3 : v0.heap.size + 1 < w2.heap.size := by omega)); (try (have y4 : v0.heap.size + 1 < w2.heap.size + 1 := by omega)); (first | (have _t := fA; obtain ⟨fB, hTB, hLB, HTB⟩ := tab3 r0 r1) | obtain ⟨fA, hTA, hLA, HTA⟩ := tab3 r0 r1)))
    all_goals
      go_wp2
      refine pt_done (n := w.heap.size) (x := fA (-1000000) 1000000 0) (y := fB (-1000000) 1000000 1) ?_ ?_ ?_ ?_ ?_ ?_ ?_
      · exact Ext.cellOf (by repeat (first | exact Ext.refl _ | with_reducible apply Ext.alloc | with_reducible apply Ext.drew)) (set_c0 k0)
      · exact Ext.cellOf (by repeat (first | exact Ext.refl _ | with_reducible apply Ext.alloc | with_reducible apply Ext.drew)) (set_c1 k1)
      · repeat (first | with_reducible assumption | with_reducible apply Src.alloc | (with_reducible refine Src.setCell ?_ hB _))
      · repeat (first | with_reducible assumption | with_reducible exact Chg.refl _ _ | with_reducible apply Chg.alloc | with_reducible apply Chg.drew | (with_reducible refine Chg.setNew ?_ (Nat.le_refl _) _) | (with_reducible refine Chg.trans ?_ (by with_reducible assumption)))
      · exact bd3 (HTA.out (-1000000) 1000000 0) (by decide) (by decide) (by decide)
      · exact bd3 (HTB.out (-1000000) 1000000 1) (by decide) (by decide) (by decide)
      · rfl
  · have hr1 : (r == 0) = false := beq_eq_false_iff_ne.2 hr
    have k0 : w2.cell? ⟨w.heap.size, 0, none⟩ = some (.int .i64 0) := hc.cellOf hn0 (boxed 0 rfl rfl)
    have k1 : w2.cell? ⟨w.heap.size, 1, none⟩ = some (.int .i64 0) := hc.cellOf hn0 (boxed 1 rfl rfl)
    have k2 : w2.frozen? ⟨w.heap.size, 0, none⟩ = false := (hc.frozenOf hn0 (by simp)).trans (thawed 0 rfl)
    have k3 : w2.frozen? ⟨w.heap.size, 1, none⟩ = false := (hc.frozenOf hn0 (by simp)).trans (thawed 1 rfl)
    clear hr
    go_wp2_with fail
    refine (next_pos _ _ _ (by repeat (first | with_reducible assumption | with_reducible apply Src.alloc | with_reducible apply Src.drew | with_reducible apply Src.drewN)) (by omega)).mono ?_
    rintro e w3 ⟨r2, rfl, r20, r21, hs3, hc3⟩
    obtain ⟨v, hv, hor⟩ := pick3 hc3 hs2 r20 r21
    have hx := (Ext.refl w2).alloc (.cells #[.int .i64 7, .int .i64 41, .int .i64 1001] 2)
    replace k2 := hc3.thawOf hn0 (hx.cellOf k0) (hx.thawOf k0 k2)
    replace k3 := hc3.thawOf hn0 (hx.cellOf k1) (hx.thawOf k1 k3)
    replace k0 := hc3.cellOf hn0 (hx.cellOf k0)
    replace k1 := hc3.cellOf hn0 (hx.cellOf k1)
    have hC := hc.trans ((Chg.of_ext hx).trans hc3)
    clear hx hc hc3
    go_wp2_with fail
    refine (next_pos _ _ _ (by repeat (first | with_reducible assumption | with_reducible apply Src.alloc | with_reducible apply Src.drew | with_reducible apply Src.drewN)) (by omega)).mono ?_
    rintro e w4 ⟨r3, rfl, r30, r31, hs4, hc4⟩
    replace k2 := hc4.thawOf hn0 k0 k2
    replace k3 := hc4.thawOf hn0 k1 k3
    replace k0 := hc4.cellOf hn0 k0
    replace k1 := hc4.cellOf hn0 k1
    replace hC := hC.trans hc4
    clear hc4
    go_wp2_with fail
    refine (next_pos _ _ _ (by repeat (first | with_reducible assumption | with_reducible apply Src.alloc | with_reducible apply Src.drew | with_reducible apply Src.drewN)) (by omega)).mono ?_
    rintro e w5 ⟨r4, rfl, r40, r41, hs5, hc5⟩
    replace k2 := hc5.thawOf hn0 k0 k2
    replace k3 := hc5.thawOf hn0 k1 k3
    replace k0 := hc5.cellOf hn0 k0
    replace k1 := hc5.cellOf hn0 k1
    replace hC := hC.trans hc5
    clear hc5
    go_wp2
    refine pt_done (n := w.heap.size) (x := r3 - v / 2) (y := r4 - v / 2) (set_c0 k0) (set_c1 k1) ((hs5.setCell hB _).setCell hB _) ?_ (by omega) (by omega) rfl
    exact ((((Chg.refl B w).alloc _).trans hC).setNew (p := ⟨w.heap.size, 0, none⟩) (Nat.le_refl _) _).setNew (p := ⟨w.heap.size, 1, none⟩) (Nat.le_refl _) _
end Go.Proofs.YtmlojndkpnhalaaGreat.Draw
namespace Go.Proofs.YtmlojndkpnhalaaGreat.Draw
open Go.ChangeShapes Go.WideShapes Go.ChangeAt Go.RowKit
open Go.Proofs.YtmlojndkpnhalaaGreat.Num Go.Proofs.YtmlojndkpnhalaaGreat.Kit Go.Proofs.YtmlojndkpnhalaaGreat.Pts
set_option linter.unusedVariables false
structure Pr (w : World) (n : Nat) (x y : Value) : Prop where
  c0 : w.cell? ⟨n, 0, none⟩ = some x
  c1 : w.cell? ⟨n, 1, none⟩ = some y
  f0 : w.frozen? ⟨n, 0, none⟩ = false
  f1 : w.frozen? ⟨n, 1, none⟩ = false
theorem Pr.ext {w w' : World} {n : Nat} {x y : Value} (h : Pr w n x y) (k : Ext w w') : Pr w' n x y := ⟨k.cellOf h.c0, k.cellOf h.c1, k.thawOf h.c0 h.f0, k.thawOf h.c1 h.f1⟩
theorem Pr.chg {w w' : World} {n B : Nat} {x y : Value} (h : Pr w n x y) (k : Chg B w w') (hB : n ≠ B) : Pr w' n x y := ⟨k.cellOf hB h.c0, k.cellOf hB h.c1, k.thawOf hB h.c0 h.f0, k.thawOf hB h.c1 h.f1⟩
theorem Pr.new {w : World} {x y : Value} {t : TypeId} {n : Nat} (hn : w.heap.size = n) : Pr (w.alloc (.cells #[x, y] t)) n x y := ⟨boxed 0 rfl hn, boxed 1 rfl hn, thawed 0 hn, thawed 1 hn⟩
theorem Pr.set {w : World} {n : Nat} {x y u v : Value} (h : Pr w n x y) : Pr ((w.setCell ⟨n, 0, none⟩ u).setCell ⟨n, 1, none⟩ v) n u v :=
  ⟨set_c0 h.c0, set_c1 h.c1, by rw [World.frozen?_setCell, World.frozen?_setCell]; exact h.f0, by rw [World.frozen?_setCell, World.frozen?_setCell]; exact h.f1⟩
theorem Pr.away {w : World} {n m : Nat} {x y u v : Value} (h : Pr w n x y) (hm : m ≠ n) : Pr ((w.setCell ⟨m, 0, none⟩ u).setCell ⟨m, 1, none⟩ v) n x y :=
  ⟨by rw [World.cell?_setCell_other _ _ _ _ (by simp), World.cell?_setCell_other _ _ _ _ (by simp)]; exact h.c0, by rw [World.cell?_setCell_other _ _ _ _ (by simp), World.cell?_setCell_other _ _ _ _ (by simp)]; exact h.c1,
   by rw [World.frozen?_setCell, World.frozen?_setCell]; exact h.f0, by rw [World.frozen?_setCell, World.frozen?_setCell]; exact h.f1⟩
end Go.Proofs.YtmlojndkpnhalaaGreat.Draw
namespace Go.Proofs.YtmlojndkpnhalaaGreat.Draw
open Go.ChangeShapes Go.WideShapes Go.ChangeAt Go.RowKit
open Go.Proofs.YtmlojndkpnhalaaGreat.Num Go.Proofs.YtmlojndkpnhalaaGreat.Kit Go.Proofs.YtmlojndkpnhalaaGreat.Pts Go.Proofs.YtmlojndkpnhalaaGreat.Seg
set_option linter.unusedVariables false
set_option linter.unusedSimpArgs false
def ASg (B : Nat) (w : World) (e : Ending) (w' : World) : Prop := ∃ a b c d : Int, e = .returned (Sg a b c d) ∧ Src w' B ∧ Chg B w w'
theorem sd_done {B n : Nat} {w F : World} {tmps : Array Value} {a b c d : Int} (R : Box F n [.int .i64 a, .int .i64 b, .int .i64 c, .int .i64 d]) (hs : Src F B) (hC : Chg B w F) (ha : tmps[2]? = some (.pointer (some ⟨n, 0, none⟩))) :
    bodyPost Tryz.prog Tryz.f199 (ASg B w) Exit.ret ⟨tmps, []⟩ F := by
  obtain ⟨⟨g0, g1, g2, g3⟩, _⟩ := R.four
  exact bodyPost_ret (v := Sg a b c d) (by simp [results, Tryz.results199, go_sem, ha, g0, g1, g2, g3]) rfl ⟨a, b, c, d, rfl, hs, hC⟩
set_option maxHeartbeats 1000000 in
theorem drawS_any (B : Nat) (w : World) (hs : Src w B) : Calls Tryz.prog 199 #[.pointer (some ⟨B, 0, none⟩)] w (ASg B w) := by
  have hB := hs.lt
  have nR : w.heap.size ≠ B := by omega
  have R := Lib.hid (Box.new4 (w := w) (n := w.heap.size) (x := .int .i64 0) (y := .int .i64 0) (z := .int .i64 0) (u := .int .i64 0) (t := 225) rfl)
  have hC := (Chg.refl B w).alloc (.cells #[.int .i64 0, .int .i64 0, .int .i64 0, .int .i64 0] 225)
  go_enter Tryz.func199, Tryz.ntmps199
  go_wp2_with fail
  refine (drawPoint_any B _ (by repeat (first | with_reducible assumption | with_reducible apply Src.alloc | with_reducible apply Src.drew | with_reducible apply Src.drewN))).mono ?_
  rintro e w1 ⟨x, y, rfl, x1, y1, hs1, hc⟩
  replace R := Lib.hid (R.out.chg hc nR)
  replace hC := hC.trans hc
  clear hc hs
  go_wp2_with fail
  refine (drawPoint_any B _ hs1).mono ?_
  rintro e w2 ⟨u, v, rfl, u1, v1, hs2, hc⟩
  replace R := Lib.hid (R.out.chg hc nR)
  replace hC := hC.trans hc
  clear hc hs1
  obtain ⟨⟨k0, k1, k2, k3⟩, l0, l1, l2, l3⟩ := R.out.four
  have lR := R.out.lt
  have lB := hs2.lt
  by_cases h1 : x = u
  · have t1 : (x == u) = true := beq_iff_eq.2 h1
    by_cases h2 : y = v
    · have t2 : (y == v) = true := beq_iff_eq.2 h2
      clear h1 h2
      by_cases h3 : y < 0
      · go_wp2
        exact sd_done (n := w.heap.size) ((Box.set4 R.out).alloc _ |>.alloc _) (by repeat (first | with_reducible assumption | with_reducible apply Src.alloc | with_reducible apply Src.drew | (with_reducible refine Src.setCell ?_ (by simp <;> omega) _))) (by repeat (first | with_reducible assumption | with_reducible apply Chg.alloc | with_reducible apply Chg.drew | (with_reducible refine Chg.setNew ?_ (by simp <;> omega) _))) rfl
      · go_wp2
        exact sd_done (n := w.heap.size) ((Box.set4 R.out).alloc _ |>.alloc _) (by repeat (first | with_reducible assumption | with_reducible apply Src.alloc | with_reducible apply Src.drew | (with_reducible refine Src.setCell ?_ (by simp <;> omega) _))) (by repeat (first | with_reducible assumption | with_reducible apply Chg.alloc | with_reducible apply Chg.drew | (with_reducible refine Chg.setNew ?_ (by simp <;> omega) _))) rfl
    · have t2 : (y == v) = false := beq_eq_false_iff_ne.2 h2
      clear h1 h2
      go_wp2
      exact sd_done (n := w.heap.size) ((Box.set4 R.out).alloc _ |>.alloc _) (by repeat (first | with_reducible assumption | with_reducible apply Src.alloc | with_reducible apply Src.drew | (with_reducible refine Src.setCell ?_ (by simp <;> omega) _))) (by repeat (first | with_reducible assumption | with_reducible apply Chg.alloc | with_reducible apply Chg.drew | (with_reducible refine Chg.setNew ?_ (by simp <;> omega) _))) rfl
  · have t1 : (x == u) = false := beq_eq_false_iff_ne.2 h1
    clear h1
    go_wp2
    exact sd_done (n := w.heap.size) ((Box.set4 R.out).alloc _ |>.alloc _) (by repeat (first | with_reducible assumption | with_reducible apply Src.alloc | with_reducible apply Src.drew | (with_reducible refine Src.setCell ?_ (by simp <;> omega) _))) (by repeat (first | with_reducible assumption | with_reducible apply Chg.alloc | with_reducible apply Chg.drew | (with_reducible refine Chg.setNew ?_ (by simp <;> omega) _))) rfl
end Go.Proofs.YtmlojndkpnhalaaGreat.Draw
