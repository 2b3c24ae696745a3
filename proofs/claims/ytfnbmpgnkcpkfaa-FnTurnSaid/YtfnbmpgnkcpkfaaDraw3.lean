/- Contracts of chapter 1's draws of points, continued: l01DrawAny, DrawTurnOf. -/
import Derived.Test.YtfnbmpgnkcpkfaaDraw2
import Derived.Outline
namespace Go.Proofs.Ytfnbmpgnkcpkfaa.Draw
open Go.ChangeShapes Go.WideShapes Go.ChangeAt Go.RowKit
open Go.Proofs.Ytfnbmpgnkcpkfaa.Num Go.Proofs.Ytfnbmpgnkcpkfaa.Kit Go.Proofs.Ytfnbmpgnkcpkfaa.Pts
set_option linter.unusedVariables false

/-- The end of l01DrawAny. -/
theorem any_done {B n : Nat} {w F : World} {tmps : Array Value} {x y : Int} (c0 : F.cell? ⟨n, 0, none⟩ = some (.int .i64 x)) (c1 : F.cell? ⟨n, 1, none⟩ = some (.int .i64 y)) (hs : Src F B) (hC : Chg B w F)
    (hx : -1000001 ≤ x ∧ x ≤ 1000001) (hy : -1000001 ≤ y ∧ y ≤ 1000001) (ha : tmps[2]? = some (.pointer (some ⟨n, 0, none⟩))) :
    bodyPost Try.prog Try.f23 (APt B w) Exit.ret ⟨tmps, []⟩ F :=
  bodyPost_ret (v := Pt x y) (by simp [results, Try.results23, go_sem, ha, c0, c1]) rfl ⟨x, y, rfl, hx, hy, hs, hC⟩

set_option maxHeartbeats 1000000 in
theorem drawAny_any (B : Nat) (w : World) (hs : Src w B) : Calls Try.prog 23 #[.pointer (some ⟨B, 0, none⟩)] w (APt B w) := by
  have hB := hs.lt
  have hn0 : w.heap.size ≠ B := by omega
  go_enter Try.func23, Try.ntmps23
  go_wp2_with fail
  refine (drawPoint_any B _ (by repeat (first | with_reducible assumption | with_reducible apply Src.alloc | with_reducible apply Src.drew | with_reducible apply Src.drewN))).mono ?_
  rintro e w1 ⟨x, y, rfl, hx, hy, hs1, hc1⟩
  have k0 : w1.cell? ⟨w.heap.size, 0, none⟩ = some (.int .i64 0) := hc1.cellOf hn0 (boxed 0 rfl rfl)
  have k1 : w1.cell? ⟨w.heap.size, 1, none⟩ = some (.int .i64 0) := hc1.cellOf hn0 (boxed 1 rfl rfl)
  have k2 : w1.frozen? ⟨w.heap.size, 0, none⟩ = false := hc1.thawOf hn0 (boxed 0 rfl rfl) (thawed 0 rfl)
  have k3 : w1.frozen? ⟨w.heap.size, 1, none⟩ = false := hc1.thawOf hn0 (boxed 1 rfl rfl) (thawed 1 rfl)
  have hC := ((Chg.refl B w).alloc (.cells #[.int .i64 0, .int .i64 0] 25)).trans hc1
  clear hc1
  have hlt : w.heap.size < w1.heap.size := World.block_lt_of_cell? w1 _ k0
  have hne : w1.heap.size ≠ w.heap.size := by omega
  go_wp2_with fail
  have hx1 := (Ext.refl w1).alloc (.cells #[.int .i64 x, .int .i64 y] 25)
  have hn1 : w1.heap.size ≠ B := Nat.ne_of_gt hs1.lt
  have hz1 := hC.size
  refine (next_pos _ _ _ (by repeat (first | with_reducible assumption | with_reducible apply Src.alloc | with_reducible apply Src.drew | with_reducible apply Src.drewN)) (by omega)).mono ?_
  rintro e w2 ⟨r, rfl, r0, r1, hs2, hc2⟩
  have hc := (Chg.of_ext (B := B) hx1).trans hc2
  replace k2 := hc.thawOf hn0 k0 k2
  replace k3 := hc.thawOf hn0 k1 k3
  replace k0 := hc.cellOf hn0 k0
  replace k1 := hc.cellOf hn0 k1
  have m0 : w2.cell? ⟨w1.heap.size, 0, none⟩ = some (.int .i64 x) := hc2.cellOf hn1 (boxed 0 rfl rfl)
  have m1 : w2.cell? ⟨w1.heap.size, 1, none⟩ = some (.int .i64 y) := hc2.cellOf hn1 (boxed 1 rfl rfl)
  have m2 : w2.frozen? ⟨w1.heap.size, 0, none⟩ = false := hc2.thawOf hn1 (boxed 0 rfl rfl) (thawed 0 rfl)
  replace hC := hC.trans hc
  have HC := Lib.hid hC
  clear hc hc2 hx1 hz1 hC
  by_cases hr : r = 0
  · have hr1 : (r == 0) = true := beq_iff_eq.2 hr
    clear hr
    go_wp2_with fail
    refine (next_pos _ _ _ (by repeat (first | with_reducible assumption | with_reducible apply Src.alloc | with_reducible apply Src.drew | with_reducible apply Src.drewN)) (by omega)).mono ?_
    rintro e w3 ⟨r2, rfl, r20, r21, hs3, hc3⟩
    obtain ⟨v, hv, hor⟩ := pick2 hc3 hs2 r20 r21
    have hx2 := (Ext.refl w2).alloc (.cells #[.int .i64 1000001, .int .i64 (-1000001)] 2)
    have hc := (Chg.of_ext (B := B) hx2).trans hc3
    replace k2 := hc.thawOf hn0 k0 k2
    replace k3 := hc.thawOf hn0 k1 k3
    replace k0 := hc.cellOf hn0 k0
    replace k1 := hc.cellOf hn0 k1
    replace m2 := hc.thawOf hn1 m0 m2
    replace m0 := hc.cellOf hn1 m0
    replace m1 := hc.cellOf hn1 m1
    have HC2 := Lib.hid (HC.out.trans hc)
    clear hc hc3 hx2
    go_wp2
    refine any_done (n := w.heap.size) (x := v) (y := y) (set_c0 (u := .int .i64 0) ?_) (set_c1 (u := .int .i64 0) ?_) (((hs3.setCell (by simp; omega) _).setCell hB _).setCell hB _) ?_ (by omega) hy rfl
    · rw [World.cell?_setCell_other _ _ _ _ (by simp)]; exact k0
    · rw [World.cell?_setCell_other _ _ _ _ (by simp)]; exact k1
    · exact ((HC2.out.setNew (p := ⟨w1.heap.size, 0, none⟩) (by simp; omega) _).setNew (p := ⟨w.heap.size, 0, none⟩) (Nat.le_refl _) _).setNew (p := ⟨w.heap.size, 1, none⟩) (Nat.le_refl _) _
  · have hr1 : (r == 0) = false := beq_eq_false_iff_ne.2 hr
    clear hr
    go_wp2
    refine any_done (n := w.heap.size) (x := x) (y := y) (set_c0 k0) (set_c1 k1) ((hs2.setCell hB _).setCell hB _) ?_ hx hy rfl
    exact (HC.out.setNew (p := ⟨w.heap.size, 0, none⟩) (Nat.le_refl _) _).setNew (p := ⟨w.heap.size, 1, none⟩) (Nat.le_refl _) _

/-- A pair of cells that may be written. -/
structure Pr (w : World) (n : Nat) (x y : Value) : Prop where
  c0 : w.cell? ⟨n, 0, none⟩ = some x
  c1 : w.cell? ⟨n, 1, none⟩ = some y
  f0 : w.frozen? ⟨n, 0, none⟩ = false
  f1 : w.frozen? ⟨n, 1, none⟩ = false
theorem Pr.ext {w w' : World} {n : Nat} {x y : Value} (h : Pr w n x y) (k : Ext w w') : Pr w' n x y := ⟨k.cellOf h.c0, k.cellOf h.c1, k.thawOf h.c0 h.f0, k.thawOf h.c1 h.f1⟩
theorem Pr.chg {w w' : World} {n B : Nat} {x y : Value} (h : Pr w n x y) (k : Chg B w w') (hB : n ≠ B) : Pr w' n x y := ⟨k.cellOf hB h.c0, k.cellOf hB h.c1, k.thawOf hB h.c0 h.f0, k.thawOf hB h.c1 h.f1⟩
theorem Pr.new {w : World} {x y : Value} {t : TypeId} {n : Nat} (hn : w.heap.size = n) : Pr (w.alloc (.cells #[x, y] t)) n x y := ⟨boxed 0 rfl hn, boxed 1 rfl hn, thawed 0 hn, thawed 1 hn⟩
/-- Both cells are written. -/
theorem Pr.set {w : World} {n : Nat} {x y u v : Value} (h : Pr w n x y) : Pr ((w.setCell ⟨n, 0, none⟩ u).setCell ⟨n, 1, none⟩ v) n u v :=
  ⟨set_c0 h.c0, set_c1 h.c1, by rw [World.frozen?_setCell, World.frozen?_setCell]; exact h.f0, by rw [World.frozen?_setCell, World.frozen?_setCell]; exact h.f1⟩
/-- Another pair is written. -/
theorem Pr.away {w : World} {n m : Nat} {x y u v : Value} (h : Pr w n x y) (hm : m ≠ n) : Pr ((w.setCell ⟨m, 0, none⟩ u).setCell ⟨m, 1, none⟩ v) n x y :=
  ⟨by rw [World.cell?_setCell_other _ _ _ _ (by simp), World.cell?_setCell_other _ _ _ _ (by simp)]; exact h.c0, by rw [World.cell?_setCell_other _ _ _ _ (by simp), World.cell?_setCell_other _ _ _ _ (by simp)]; exact h.c1,
   by rw [World.frozen?_setCell, World.frozen?_setCell]; exact h.f0, by rw [World.frozen?_setCell, World.frozen?_setCell]; exact h.f1⟩

/-- Three points come out. -/
def ThreePts (w : World) (e : Ending) (w' : World) : Prop := ∃ x y u v a b : Int, e = .returned (.tuple #[Pt x y, Pt u v, Pt a b]) ∧ Ext w w'

theorem three_done {w F : World} {tmps : Array Value} {x y u v a b : Int} {n m k : Nat} (p : Pr F n (.int .i64 x) (.int .i64 y)) (q : Pr F m (.int .i64 u) (.int .i64 v)) (r : Pr F k (.int .i64 a) (.int .i64 b)) (hx : Ext w F)
    (h2 : tmps[2]? = some (.pointer (some ⟨n, 0, none⟩))) (h3 : tmps[3]? = some (.pointer (some ⟨m, 0, none⟩))) (h4 : tmps[4]? = some (.pointer (some ⟨k, 0, none⟩))) :
    bodyPost Try.prog Try.f8 (ThreePts w) Exit.ret ⟨tmps, []⟩ F :=
  bodyPost_ret (v := .tuple #[Pt x y, Pt u v, Pt a b]) (by simp [results, Try.results8, go_sem, h2, h3, h4, p.c0, p.c1, q.c0, q.c1, r.c0, r.c1]) rfl ⟨x, y, u, v, a, b, rfl, hx⟩

set_option maxHeartbeats 1000000 in
theorem drawTurnOf_any (a : Option Addr) (len cap : Nat) (w : World) (hb : Bytes w a len) (hl : len ≤ 100000) : Calls Try.prog 8 #[.slice a len cap] w (ThreePts w) := by
  have HB := Lib.hid hb
  clear hb
  go_enter Try.func8, Try.ntmps8
  go_wp2_with fail
  have p := (((Pr.new (w := w) (x := .int .i64 0) (y := .int .i64 0) (t := 25) rfl).ext ((Ext.refl _).alloc (.cells #[.int .i64 0, .int .i64 0] 25))).ext ((Ext.refl _).alloc (.cells #[.int .i64 0, .int .i64 0] 25)))
  have q := ((Pr.new (w := w.alloc (.cells #[.int .i64 0, .int .i64 0] 25)) (x := .int .i64 0) (y := .int .i64 0) (t := 25) (n := w.heap.size + 1) (by simp)).ext ((Ext.refl _).alloc (.cells #[.int .i64 0, .int .i64 0] 25)))
  have r := (Pr.new (w := (w.alloc (.cells #[.int .i64 0, .int .i64 0] 25)).alloc (.cells #[.int .i64 0, .int .i64 0] 25)) (x := .int .i64 0) (y := .int .i64 0) (t := 25) (n := w.heap.size + 1 + 1) (by simp))
  refine (from_any a len cap _ (HB.out.ext ((((Ext.refl w).alloc _).alloc _).alloc _)) hl).mono ?_
  rintro e w1 ⟨B, rfl, hB, hs, hx⟩
  simp at hB
  have hn : w.heap.size ≠ B := by omega
  have hm : w.heap.size + 1 ≠ B := by omega
  have hk : w.heap.size + 1 + 1 ≠ B := by omega
  replace p := p.ext hx
  replace q := q.ext hx
  replace r := r.ext hx
  replace hx := ((((Ext.refl w).alloc (.cells #[.int .i64 0, .int .i64 0] 25)).alloc (.cells #[.int .i64 0, .int .i64 0] 25)).alloc (.cells #[.int .i64 0, .int .i64 0] 25)).trans hx
  go_wp2_with fail
  refine (drawAny_any B _ hs).mono ?_
  rintro e w2 ⟨x0, y0, rfl, _, _, hs2, hc2⟩
  replace p := p.chg hc2 hn
  replace q := q.chg hc2 hm
  replace r := r.chg hc2 hk
  replace hx := hc2.ext hx (by omega)
  clear hc2 hs
  go_wp2_with fail
  refine (drawAny_any B _ hs2).mono ?_
  rintro e w3 ⟨x1, y1, rfl, _, _, hs3, hc3⟩
  replace p := p.chg hc3 hn
  replace q := q.chg hc3 hm
  replace r := r.chg hc3 hk
  replace hx := hc3.ext hx (by omega)
  clear hc3 hs2
  go_wp2_with fail
  refine (drawAny_any B _ hs3).mono ?_
  rintro e w4 ⟨x2, y2, rfl, _, _, hs4, hc4⟩
  replace p := p.chg hc4 hn
  replace q := q.chg hc4 hm
  replace r := r.chg hc4 hk
  replace hx := hc4.ext hx (by omega)
  clear hc4 hs3
  have HP := Lib.hid p
  have HQ := Lib.hid q
  have HR := Lib.hid r
  obtain ⟨p0, p1, p2, p3⟩ := p
  obtain ⟨q0, q1, q2, q3⟩ := q
  obtain ⟨r0, r1, r2, r3⟩ := r
  go_wp2
  refine three_done (n := w.heap.size) (m := w.heap.size + 1) (k := w.heap.size + 1 + 1) ((HP.out.set.away (by omega)).away (by omega)) ((HQ.out.away (by omega)).set.away (by omega)) (((HR.out.away (by omega)).away (by omega)).set) ?_ rfl rfl rfl
  exact (((((hx.setNew (by simp) _).setNew (by simp) _).setNew (by simp) _).setNew (by simp) _).setNew (by simp; omega) _).setNew (by simp; omega) _

end Go.Proofs.Ytfnbmpgnkcpkfaa.Draw
