/- The contract of l05DrawCrossing: a crossing comes out, only the source is written. -/
import Derived.Test.YtccggjhmnbebbaaDrawLn
import Derived.Test.YtccggjhmnbebbaaCro2
namespace Go.Proofs.Ytccggjhmnbebbaa.Trk
open Go.ChangeShapes Go.WideShapes Go.ChangeAt Go.RowKit
open Go.Proofs.Ytccggjhmnbebbaa.Num Go.Proofs.Ytccggjhmnbebbaa.Kit Go.Proofs.Ytccggjhmnbebbaa.Pts Go.Proofs.Ytccggjhmnbebbaa.Draw Go.Proofs.Ytccggjhmnbebbaa.Seg Go.Proofs.Ytccggjhmnbebbaa.Rwk Go.Proofs.Ytccggjhmnbebbaa.Crs
set_option linter.unusedVariables false
set_option linter.unusedSimpArgs false

/-- A crossing comes out. -/
def ACr (B : Nat) (w : World) (e : Ending) (w' : World) : Prop := ∃ t l g x y : Int, e = .returned (Cr t l g x y) ∧ Src w' B ∧ Chg B w w'
theorem dc_done {B n : Nat} {w F : World} {tmps : Array Value} {t l g x y : Int} (R : Box F n [.int .i64 t, .int .i64 l, .int .i64 g, .int .i64 x, .int .i64 y]) (hs : Src F B) (hC : Chg B w F) (ha : tmps[4]? = some (.pointer (some ⟨n, 0, none⟩))) :
    bodyPost Try.prog Try.f36 (ACr B w) Exit.ret ⟨tmps, []⟩ F := by
  obtain ⟨⟨g0, g1, g2, g3, g4⟩, _⟩ := R.five
  exact bodyPost_ret (v := Cr t l g x y) (by simp [results, Try.results36, go_sem, ha, g0, g1, g2, g3, g4]) rfl ⟨t, l, g, x, y, rfl, hs, hC⟩

set_option maxRecDepth 100000 in
set_option maxHeartbeats 4000000 in
theorem drawCrossing_any (B g tc n : Nat) (w : World) (hs : Src w B) (hI : IntRow w g n) (hgB : g ≠ B) (h1 : 1 ≤ n) (h41 : n ≤ 41) (hcap : n ≤ tc) :
    Calls Try.prog 36 #[.pointer (some ⟨B, 0, none⟩), Tr (.slice (some ⟨g, 0, none⟩) n tc)] w (ACr B w) := by
  obtain ⟨fs, rfl, hO⟩ := hI.own
  have hB := hs.lt
  have hgl : g < w.heap.size := World.block_lt_of_cell? w _ (hI 0 (by omega)).1.choose_spec
  obtain ⟨W0, hW0⟩ : ∃ W0, W0 = (w.alloc (.cells #[.slice (some ⟨g, 0, none⟩) fs.length tc] 26)).alloc (.cells #[.int .i64 0, .int .i64 0, .int .i64 0, .int .i64 0, .int .i64 0] 42) := ⟨_, rfl⟩
  have hX : Ext w W0 := hW0 ▸ ((Ext.refl w).alloc _).alloc _
  have hz0 : W0.heap.size = w.heap.size + 1 + 1 := by rw [hW0]; simp
  have ct : W0.cell? ⟨w.heap.size, 0, none⟩ = some (.slice (some ⟨g, 0, none⟩) fs.length tc) := by rw [hW0]; exact ((Ext.refl _).alloc _).cellOf (boxed 0 rfl rfl)
  have R := Lib.hid (show Box W0 (w.heap.size + 1) [.int .i64 0, .int .i64 0, .int .i64 0, .int .i64 0, .int .i64 0] by rw [hW0]; exact Box.new5 (by simp))
  have hC := Lib.hid (Chg.of_ext (B := B) hX)
  have hs0 := hs.ext hX
  have nT : w.heap.size ≠ B := by omega
  have nR : w.heap.size + 1 ≠ B := by omega
  have gR : B < w.heap.size + 1 := by omega
  replace hO := Lib.hid (hO.ext hX)
  replace hI := Lib.hid (hI.ext hX)
  have hF := Lib.hid (hO.out.fxs (by unfold maxLen; omega))
  clear hs hX
  go_enter Try.func36, Try.ntmps36
  go_wp2_with fail
  rw [← hW0]
  clear hW0
  refine (isTrack_spec _ _ _ _ hF.out).mono ?_
  rintro e w1 ⟨rfl, hy⟩
  replace ct := hy.cellOf ct
  replace R := Lib.hid (R.out.ext hy)
  replace hC := Lib.hid (hC.out.trans (Chg.of_ext hy))
  replace hs0 := hs0.ext hy
  replace hO := Lib.hid (hO.out.ext hy)
  replace hI := Lib.hid (hI.out.ext hy)
  have z1 := Ext.size hy
  clear hy hF
  cases hv : trB fs
  · clear ct hO hI
    go_wp2_with fail
    refine (next_pos B _ _ hs0 (by omega)).mono ?_
    rintro e vr2 ⟨r2, rfl, r20, r21, hs1, hc⟩
    replace R := Lib.hid (R.out.chg hc nR)
    replace hC := Lib.hid (hC.out.trans hc)
    clear hc hs0
    have hs0 := hs1
    clear hs1
    have E1 : IntKind.i64.wrap (1 + r2) = 1 + r2 := IntWalk.i64_in _ (by omega)
    have E2 : IntKind.i64.wrap (1 + r2 + 1) = 1 + r2 + 1 := IntWalk.i64_in _ (by omega)
    go_wp2_with fail
    refine (next_pos B _ _ hs0 (by omega)).mono ?_
    rintro e vr3 ⟨r3, rfl, r30, r31, hs1, hc⟩
    replace R := Lib.hid (R.out.chg hc nR)
    replace hC := Lib.hid (hC.out.trans hc)
    clear hc hs0
    have hs0 := hs1
    clear hs1
    go_wp2_with fail
    refine (next_pos B _ _ hs0 (by omega)).mono ?_
    rintro e vr4 ⟨r4, rfl, r40, r41, hs1, hc⟩
    replace R := Lib.hid (R.out.chg hc nR)
    replace hC := Lib.hid (hC.out.trans hc)
    clear hc hs0
    have hs0 := hs1
    clear hs1
    go_wp2_with fail
    refine (next_pos B _ _ hs0 (by omega)).mono ?_
    rintro e vr5 ⟨r5, rfl, r50, r51, hs1, hc⟩
    replace R := Lib.hid (R.out.chg hc nR)
    replace hC := Lib.hid (hC.out.trans hc)
    clear hc hs0
    have hs0 := hs1
    clear hs1
    go_wp2_with fail
    refine (next_pos B _ _ hs0 (by omega)).mono ?_
    rintro e vr6 ⟨r6, rfl, r60, r61, hs1, hc⟩
    replace R := Lib.hid (R.out.chg hc nR)
    replace hC := Lib.hid (hC.out.trans hc)
    clear hc hs0
    have hs0 := hs1
    clear hs1
    obtain ⟨⟨k0, k1, k2, k3, k4⟩, l0, l1, l2, l3, l4⟩ := R.out.five
    go_wp2
    exact dc_done (n := w.heap.size + 1) (Box.set5 R.out) (by repeat (first | with_reducible assumption | (with_reducible refine Src.setCell ?_ (by simp <;> omega) _))) (by repeat (first | with_reducible assumption | exact hC.out | (with_reducible refine Chg.setNew ?_ (by simp <;> omega) _))) rfl
  go_wp2_with fail
  refine (next_pos B _ _ hs0 (by omega)).mono ?_
  rintro e w2 ⟨r1, rfl, r10, r11, hs1, hc⟩
  replace ct := hc.cellOf (by simp; omega) ct
  replace R := Lib.hid (R.out.chg hc nR)
  replace hO := Lib.hid (hO.out.away hc hgB)
  replace hI := Lib.hid (hI.out.chg hc hgB)
  replace hC := Lib.hid (hC.out.trans hc)
  have z2 := hc.size
  clear hc hs0
  have hs0 := hs1
  clear hs1
  by_cases hr : r1 = 0
  · have t1 : (r1 == 0) = true := beq_iff_eq.2 hr
    clear hr ct hO hI
    go_wp2_with fail
    refine (next_pos B _ _ hs0 (by omega)).mono ?_
    rintro e vr2 ⟨r2, rfl, r20, r21, hs1, hc⟩
    replace R := Lib.hid (R.out.chg hc nR)
    replace hC := Lib.hid (hC.out.trans hc)
    clear hc hs0
    have hs0 := hs1
    clear hs1
    have E1 : IntKind.i64.wrap (1 + r2) = 1 + r2 := IntWalk.i64_in _ (by omega)
    have E2 : IntKind.i64.wrap (1 + r2 + 1) = 1 + r2 + 1 := IntWalk.i64_in _ (by omega)
    go_wp2_with fail
    refine (next_pos B _ _ hs0 (by omega)).mono ?_
    rintro e vr3 ⟨r3, rfl, r30, r31, hs1, hc⟩
    replace R := Lib.hid (R.out.chg hc nR)
    replace hC := Lib.hid (hC.out.trans hc)
    clear hc hs0
    have hs0 := hs1
    clear hs1
    go_wp2_with fail
    refine (next_pos B _ _ hs0 (by omega)).mono ?_
    rintro e vr4 ⟨r4, rfl, r40, r41, hs1, hc⟩
    replace R := Lib.hid (R.out.chg hc nR)
    replace hC := Lib.hid (hC.out.trans hc)
    clear hc hs0
    have hs0 := hs1
    clear hs1
    go_wp2_with fail
    refine (next_pos B _ _ hs0 (by omega)).mono ?_
    rintro e vr5 ⟨r5, rfl, r50, r51, hs1, hc⟩
    replace R := Lib.hid (R.out.chg hc nR)
    replace hC := Lib.hid (hC.out.trans hc)
    clear hc hs0
    have hs0 := hs1
    clear hs1
    go_wp2_with fail
    refine (next_pos B _ _ hs0 (by omega)).mono ?_
    rintro e vr6 ⟨r6, rfl, r60, r61, hs1, hc⟩
    replace R := Lib.hid (R.out.chg hc nR)
    replace hC := Lib.hid (hC.out.trans hc)
    clear hc hs0
    have hs0 := hs1
    clear hs1
    obtain ⟨⟨k0, k1, k2, k3, k4⟩, l0, l1, l2, l3, l4⟩ := R.out.five
    go_wp2
    exact dc_done (n := w.heap.size + 1) (Box.set5 R.out) (by repeat (first | with_reducible assumption | (with_reducible refine Src.setCell ?_ (by simp <;> omega) _))) (by repeat (first | with_reducible assumption | exact hC.out | (with_reducible refine Chg.setNew ?_ (by simp <;> omega) _))) rfl
  have t1 : (r1 == 0) = false := beq_eq_false_iff_ne.2 hr
  clear hr
  go_wp2_with fail
  refine (drawLine_any B g tc fs.length _ hs0 hI.out hgB h1 h41 hcap).mono ?_
  rintro e w3 ⟨a, b, c, d, rfl, hs1, hc⟩
  have gL := hs1.lt
  have z3 := hc.size
  obtain ⟨wA, hwA⟩ : ∃ wA, wA = w3.alloc (.cells #[.int .i64 a, .int .i64 b, .int .i64 c, .int .i64 d] 30) := ⟨_, rfl⟩
  have hA : Ext w3 wA := hwA ▸ (Ext.refl _).alloc _
  have zA : wA.heap.size = w3.heap.size + 1 := by rw [hwA]; simp
  have LB := Lib.hid (show Box wA w3.heap.size [.int .i64 a, .int .i64 b, .int .i64 c, .int .i64 d] by rw [hwA]; exact Box.new4 rfl)
  replace ct := hA.cellOf (hc.cellOf (by simp; omega) ct)
  replace R := Lib.hid ((R.out.chg hc nR).ext hA)
  replace hO := Lib.hid ((hO.out.away hc hgB).ext hA)
  replace hC := Lib.hid ((hC.out.trans hc).trans (Chg.of_ext hA))
  clear hs0
  have hs0 := hs1.ext hA
  clear hc hs1 hI t1 hA
  obtain ⟨⟨x0, x1, x2, x3⟩, _⟩ := LB.out.four
  go_wp2_with fail
  rw [← hwA]
  clear hwA
  refine (isLine_spec _ _ _ _ _).mono ?_
  rintro e w4 ⟨rfl, hy⟩
  replace ct := hy.cellOf ct
  replace R := Lib.hid (R.out.ext hy)
  replace hO := Lib.hid (hO.out.ext hy)
  replace hC := Lib.hid (hC.out.trans (Chg.of_ext hy))
  replace hs0 := hs0.ext hy
  replace LB := Lib.hid (LB.out.ext hy)
  have z4 := Ext.size hy
  clear hy x0 x1 x2 x3
  cases hsg : sgB a b c d
  · clear ct hO LB
    obtain ⟨⟨k0, k1, k2, k3, k4⟩, l0, l1, l2, l3, l4⟩ := R.out.five
    go_wp2
    exact dc_done (n := w.heap.size + 1) (Box.set5 R.out) (by repeat (first | with_reducible assumption | (with_reducible refine Src.setCell ?_ (by simp <;> omega) _))) (by repeat (first | with_reducible assumption | exact hC.out | (with_reducible refine Chg.setNew ?_ (by simp <;> omega) _))) rfl
  obtain ⟨⟨x0, x1, x2, x3⟩, _⟩ := LB.out.four
  have hF := Lib.hid (hO.out.fxs (by unfold maxLen; omega))
  have HLn := Lib.hid (crL_len fs a b c d (fs.length - 1))
  go_wp2_with fail
  refine (crossings_spec _ _ _ _ _ _ _ _ hF.out hv hsg).mono ?_
  rintro e w5 ⟨v, rfl, O1, hy⟩
  generalize crL fs a b c d (fs.length - 1) = cs at *
  replace R := Lib.hid (R.out.ext hy)
  replace hC := Lib.hid (hC.out.trans (Chg.of_ext hy))
  replace hs0 := hs0.ext hy
  have z5 := Ext.size hy
  clear hy x0 x1 x2 x3 ct hO LB hF
  by_cases hn : cs.length = 0
  · obtain ⟨_, _, rfl, -⟩ := O1.cxs (by unfold maxLen; omega)
    rw [hn]
    clear O1
    obtain ⟨⟨k0, k1, k2, k3, k4⟩, l0, l1, l2, l3, l4⟩ := R.out.five
    go_wp2
    exact dc_done (n := w.heap.size + 1) (Box.set5 R.out) (by repeat (first | with_reducible assumption | (with_reducible refine Src.setCell ?_ (by simp <;> omega) _))) (by repeat (first | with_reducible assumption | exact hC.out | (with_reducible refine Chg.setNew ?_ (by simp <;> omega) _))) rfl
  rcases O1.cases with ⟨_, h0⟩ | ⟨gv, vcap, rfl, hb, hcs, -, -⟩
  · rw [h0] at hn; simp at hn
  have t2 : ((cs.length : Int) == 0) = false := beq_eq_false_iff_ne.2 (by omega)
  clear O1
  go_wp2_with fail
  refine (next_any B _ _ hs0).mono ?_
  rintro e w6 ⟨r7, rfl, r70, r71, r72, hs1, hc⟩
  obtain ⟨k, rfl⟩ : ∃ k : Nat, r7 = k := ⟨r7.toNat, by omega⟩
  have hk : k < cs.length := by
    by_cases h : (1 : Int) < cs.length
    · have := r71 h; omega
    · have := r72 (by omega); omega
  have i0 : (0 : Int) ≤ (k : Int) := by omega
  have i1 : (k : Int) < (cs.length : Int) := by omega
  have nv : gv ≠ B := by omega
  obtain ⟨q0, q1, q2, q3, q4⟩ := hcs k hk
  replace q0 := hc.cellOf nv q0
  replace q1 := hc.cellOf nv q1
  replace q2 := hc.cellOf nv q2
  replace q3 := hc.cellOf nv q3
  replace q4 := hc.cellOf nv q4
  replace R := Lib.hid (R.out.chg hc nR)
  replace hC := Lib.hid (hC.out.trans hc)
  clear hc hs0 hcs r71 r72 t2
  obtain ⟨⟨k0, k1, k2, k3, k4⟩, l0, l1, l2, l3, l4⟩ := R.out.five
  go_wp2
  exact dc_done (n := w.heap.size + 1) (Box.set5 R.out) (by repeat (first | with_reducible assumption | (with_reducible refine Src.setCell ?_ (by simp <;> omega) _))) (by repeat (first | with_reducible assumption | exact hC.out | (with_reducible refine Chg.setNew ?_ (by simp <;> omega) _))) rfl

end Go.Proofs.Ytccggjhmnbebbaa.Trk
