/- Contracts of chapter 1's draws of points, continued: l01DrawAny, DrawTurnOf. -/
import Derived.Test.YtcangdcakgcpaaaDraw2
import Derived.Outline
namespace Go.Proofs.Ytcangdcakgcpaaa.Draw
open Go.ChangeShapes Go.WideShapes Go.ChangeAt Go.RowKit
open Go.Proofs.Ytcangdcakgcpaaa.Num Go.Proofs.Ytcangdcakgcpaaa.Kit Go.Proofs.Ytcangdcakgcpaaa.Pts
set_option linter.unusedVariables false

/-- The end of l01DrawAny. -/
theorem any_done {B n : Nat} {w F : World} {tmps : Array Value} {x y : Int} (c0 : F.cell? ⟨n, 0, none⟩ = some (.int .i64 x)) (c1 : F.cell? ⟨n, 1, none⟩ = some (.int .i64 y)) (hs : Src F B) (hC : Chg B w F)
    (hx : -1000001 ≤ x ∧ x ≤ 1000001) (hy : -1000001 ≤ y ∧ y ≤ 1000001) (ha : tmps[2]? = some (.pointer (some ⟨n, 0, none⟩))) :
    bodyPost Try.prog Try.f121 (APt B w) Exit.ret ⟨tmps, []⟩ F :=
  bodyPost_ret (v := Pt x y) (by simp [results, Try.results121, go_sem, ha, c0, c1]) rfl ⟨x, y, rfl, hx, hy, hs, hC⟩

set_option maxHeartbeats 1000000 in
theorem drawAny_any (B : Nat) (w : World) (hs : Src w B) : Calls Try.prog 121 #[.pointer (some ⟨B, 0, none⟩)] w (APt B w) := by
  have hB := hs.lt
  have hn0 : w.heap.size ≠ B := by omega
  go_enter Try.func121, Try.ntmps121
  go_wp2_with fail
  refine (drawPoint_any B _ (by repeat (first | with_reducible assumption | with_reducible apply Src.alloc | with_reducible apply Src.drew | with_reducible apply Src.drewN))).mono ?_
  rintro e w1 ⟨x, y, rfl, hx, hy, hs1, hc1⟩
  have k0 : w1.cell? ⟨w.heap.size, 0, none⟩ = some (.int .i64 0) := hc1.cellOf hn0 (boxed 0 rfl rfl)
  have k1 : w1.cell? ⟨w.heap.size, 1, none⟩ = some (.int .i64 0) := hc1.cellOf hn0 (boxed 1 rfl rfl)
  have k2 : w1.frozen? ⟨w.heap.size, 0, none⟩ = false := hc1.thawOf hn0 (boxed 0 rfl rfl) (thawed 0 rfl)
  have k3 : w1.frozen? ⟨w.heap.size, 1, none⟩ = false := hc1.thawOf hn0 (boxed 1 rfl rfl) (thawed 1 rfl)
  have hC := ((Chg.refl B w).alloc (.cells #[.int .i64 0, .int .i64 0] 37)).trans hc1
  clear hc1
  have hlt : w.heap.size < w1.heap.size := World.block_lt_of_cell? w1 _ k0
  have hne : w1.heap.size ≠ w.heap.size := by omega
  go_wp2_with fail
  have hx1 := (Ext.refl w1).alloc (.cells #[.int .i64 x, .int .i64 y] 37)
  have hn1 : w1.heap.size ≠ B := Nat.ne_of_gt hs1.lt
  have hz1 := hC.size
  refine (next_pos _ _ _ (by repeat (first | with_reducible assumption | with_reducible apply Src.alloc | with_reducible apply Src.drew | with_reducible apply Src.drewN)) (by omega)).mono ?_
  rintro e w2 ⟨r, rfl, r0, r1, hs2, hc2⟩
  have hc := (Chg.of_ext (B := B) hx1).trans hc2
  replace k2 := hc.thawOf hn0 k0 k2
  replace k3 := hc.thawOf hn0 k1 k3
  replace k0 := hc.cellOf hn0 k0
  replace k1 := hc.cellOf hn0 k1
  have m0 : w2.cell? ⟨w1.heap.size, 0, none⟩ = some (.int .i64 x) := hc2.cellOf hn1 (boxed 0 rfl rfl)
  have m1 : w2.cell? ⟨w1.heap.size, 1, none⟩ = some (.int .i64 y) := hc2.cellOf hn1 (boxed 1 rfl rfl)
  have m2 : w2.frozen? ⟨w1.heap.size, 0, none⟩ = false := hc2.thawOf hn1 (boxed 0 rfl rfl) (thawed 0 rfl)
  replace hC := hC.trans hc
  have HC := Lib.hid hC
  clear hc hc2 hx1 hz1 hC
  by_cases hr : r = 0
  · have hr1 : (r == 0) = true := beq_iff_eq.2 hr
    clear hr
    go_wp2_with fail
    refine (next_pos _ _ _ (by repeat (first | with_reducible assumption | with_reducible apply Src.alloc | with_reducible apply Src.drew | with_reducible apply Src.drewN)) (by omega)).mono ?_
    rintro e w3 ⟨r2, rfl, r20, r21, hs3, hc3⟩
    obtain ⟨v, hv, hor⟩ := pick2 hc3 hs2 r20 r21
    have hx2 := (Ext.refl w2).alloc (.cells #[.int .i64 1000001, .int .i64 (-1000001)] 2)
    have hc := (Chg.of_ext (B := B) hx2).trans hc3
    replace k2 := hc.thawOf hn0 k0 k2
    replace k3 := hc.thawOf hn0 k1 k3
    replace k0 := hc.cellOf hn0 k0
    replace k1 := hc.cellOf hn0 k1
    replace m2 := hc.thawOf hn1 m0 m2
    replace m0 := hc.cellOf hn1 m0
    replace m1 := hc.cellOf hn1 m1
    have HC2 := Lib.hid (HC.out.trans hc)
    clear hc hc3 hx2
    go_wp2
    refine any_done (n := w.heap.size) (x := v) (y := y) (set_c0 (u := .int .i64 0) ?_) (set_c1 (u := .int .i64 0) ?_) (((hs3.setCell (by simp; omega) _).setCell hB _).setCell hB _) ?_ (by omega) hy rfl
    · rw [World.cell?_setCell_other _ _ _ _ (by simp)]; exact k0
    · rw [World.cell?_setCell_other _ _ _ _ (by simp)]; exact k1
    · exact ((HC2.out.setNew (p := ⟨w1.heap.size, 0, none⟩) (by simp; omega) _).setNew (p := ⟨w.heap.size, 0, none⟩) (Nat.le_refl _) _).setNew (p := ⟨w.heap.size, 1, none⟩) (Nat.le_refl _) _
  · have hr1 : (r == 0) = false := beq_eq_false_iff_ne.2 hr
    clear hr
    go_wp2
    refine any_done (n := w.heap.size) (x := x) (y := y) (set_c0 k0) (set_c1 k1) ((hs2.setCell hB _).setCell hB _) ?_ hx hy rfl
    exact (HC.out.setNew (p := ⟨w.heap.size, 0, none⟩) (Nat.le_refl _) _).setNew (p := ⟨w.heap.size, 1, none⟩) (Nat.le_refl _) _

/-- A pair of cells that may be written. -/
structure Pr (w : World) (n : Nat) (x y : Value) : Prop where
  c0 : w.cell? ⟨n, 0, none⟩ = some x
  c1 : w.cell? ⟨n, 1, none⟩ = some y
  f0 : w.frozen? ⟨n, 0, none⟩ = false
  f1 : w.frozen? ⟨n, 1, none⟩ = false
theorem Pr.ext {w w' : World} {n : Nat} {x y : Value} (h : Pr w n x y) (k : Ext w w') : Pr w' n x y := ⟨k.cellOf h.c0, k.cellOf h.c1, k.thawOf h.c0 h.f0, k.thawOf h.c1 h.f1⟩
theorem Pr.chg {w w' : World} {n B : Nat} {x y : Value} (h : Pr w n x y) (k : Chg B w w') (hB : n ≠ B) : Pr w' n x y := ⟨k.cellOf hB h.c0, k.cellOf hB h.c1, k.thawOf hB h.c0 h.f0, k.thawOf hB h.c1 h.f1⟩
theorem Pr.new {w : World} {x y : Value} {t : TypeId} {n : Nat} (hn : w.heap.size = n) : Pr (w.alloc (.cells #[x, y] t)) n x y := ⟨boxed 0 rfl hn, boxed 1 rfl hn, thawed 0 hn, thawed 1 hn⟩
/-- Both cells are written. -/
theorem Pr.set {w : World} {n : Nat} {x y u v : Value} (h : Pr w n x y) : Pr ((w.setCell ⟨n, 0, none⟩ u).setCell ⟨n, 1, none⟩ v) n u v :=
  ⟨set_c0 h.c0, set_c1 h.c1, by rw [World.frozen?_setCell, World.frozen?_setCell]; exact h.f0, by rw [World.frozen?_setCell, World.frozen?_setCell]; exact h.f1⟩
/-- Another pair is written. -/
theorem Pr.away {w : World} {n m : Nat} {x y u v : Value} (h : Pr w n x y) (hm : m ≠ n) : Pr ((w.setCell ⟨m, 0, none⟩ u).setCell ⟨m, 1, none⟩ v) n x y :=
  ⟨by rw [World.cell?_setCell_other _ _ _ _ (by simp), World.cell?_setCell_other _ _ _ _ (by simp)]; exact h.c0, by rw [World.cell?_setCell_other _ _ _ _ (by simp), World.cell?_setCell_other _ _ _ _ (by simp)]; exact h.c1,
   by rw [World.frozen?_setCell, World.frozen?_setCell]; exact h.f0, by rw [World.frozen?_setCell, World.frozen?_setCell]; exact h.f1⟩

/-- Three points come out. -/
def ThreePts (w : World) (e : Ending) (w' : World) : Prop := ∃ x y u v a b : Int, e = .returned (.tuple #[Pt x y, Pt u v, Pt a b]) ∧ Ext w w'

end Go.Proofs.Ytcangdcakgcpaaa.Draw
