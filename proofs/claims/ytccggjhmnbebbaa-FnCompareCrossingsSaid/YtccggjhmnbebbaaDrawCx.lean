/- The contract of DrawCompareCrossings: two tracks, each with a crossing, come out, and nothing that was there is written. -/
import Derived.Test.YtccggjhmnbebbaaDrawCr
import Derived.Test.YtccggjhmnbebbaaDrawCc
namespace Go.Proofs.Ytccggjhmnbebbaa.Trk
open Go.ChangeShapes Go.WideShapes Go.ChangeAt Go.RowKit
open Go.Proofs.Ytccggjhmnbebbaa.Num Go.Proofs.Ytccggjhmnbebbaa.Kit Go.Proofs.Ytccggjhmnbebbaa.Pts Go.Proofs.Ytccggjhmnbebbaa.Draw Go.Proofs.Ytccggjhmnbebbaa.Seg Go.Proofs.Ytccggjhmnbebbaa.Rwk
set_option linter.unusedVariables false
set_option linter.unusedSimpArgs false

theorem IntRow.put {w : World} {g n : Nat} (h : IntRow w g n) {p : Addr} (hp : p.block ≠ g) (v : Value) : IntRow (w.setCell p v) g n := fun j hj => by
  obtain ⟨⟨z, c⟩, f⟩ := h j hj
  exact ⟨⟨z, by rw [World.cell?_setCell_other _ _ _ _ (fun he => hp (by rw [he]))]; exact c⟩, by rw [World.frozen?_setCell]; exact f⟩
theorem IntRow.drew {w : World} {g n : Nat} (h : IntRow w g n) : IntRow w.drew g n := h.ext (Ext.refl w).drew
theorem Box.away5 {w : World} {n m i j k l o : Nat} {vs : List Value} {a b c d e : Value} (h : Box w n vs) (hm : m ≠ n) : Box (((((w.setCell ⟨m, i, none⟩ a).setCell ⟨m, j, none⟩ b).setCell ⟨m, k, none⟩ c).setCell ⟨m, l, none⟩ d).setCell ⟨m, o, none⟩ e) n vs :=
  (((((h.away hm a).away hm b).away hm c).away hm d).away hm e)

/-- Two tracks, each with a crossing. -/
def TrC2 (w : World) (e : Ending) (w' : World) : Prop :=
  ∃ (g cap n g2 cap2 n2 : Nat) (t l d x y t2 l2 d2 x2 y2 : Int), e = .returned (.tuple #[Tr (.slice (some ⟨g, 0, none⟩) n cap), Cr t l d x y, Tr (.slice (some ⟨g2, 0, none⟩) n2 cap2), Cr t2 l2 d2 x2 y2]) ∧ n ≤ 41 ∧ n2 ≤ 41 ∧ IntRow w' g n ∧ IntRow w' g2 n2 ∧ Ext w w'
theorem cx_done {m g cap n g2 cap2 n2 : Nat} {w F : World} {tmps : Array Value} {t l d x y t2 l2 d2 x2 y2 : Int} (R1 : Box F m [.slice (some ⟨g, 0, none⟩) n cap]) (R2 : Box F (m + 1) [.int .i64 t, .int .i64 l, .int .i64 d, .int .i64 x, .int .i64 y])
    (R3 : Box F (m + 1 + 1) [.slice (some ⟨g2, 0, none⟩) n2 cap2]) (R4 : Box F (m + 1 + 1 + 1) [.int .i64 t2, .int .i64 l2, .int .i64 d2, .int .i64 x2, .int .i64 y2]) (h1 : n ≤ 41) (h2 : n2 ≤ 41) (hI : IntRow F g n) (hI2 : IntRow F g2 n2) (hC : Ext w F)
    (ha : tmps[2]? = some (.pointer (some ⟨m, 0, none⟩))) (hb : tmps[3]? = some (.pointer (some ⟨m + 1, 0, none⟩))) (hc : tmps[4]? = some (.pointer (some ⟨m + 1 + 1, 0, none⟩))) (hd : tmps[5]? = some (.pointer (some ⟨m + 1 + 1 + 1, 0, none⟩))) :
    bodyPost Try.prog Try.f17 (TrC2 w) Exit.ret ⟨tmps, []⟩ F := by
  obtain ⟨⟨f0, f1, f2, f3, f4⟩, _⟩ := R2.five
  obtain ⟨⟨k0, k1, k2, k3, k4⟩, _⟩ := R4.five
  have g0 := (R1 0 _ rfl).1
  have g1 := (R3 0 _ rfl).1
  exact bodyPost_ret (v := .tuple #[Tr (.slice (some ⟨g, 0, none⟩) n cap), Cr t l d x y, Tr (.slice (some ⟨g2, 0, none⟩) n2 cap2), Cr t2 l2 d2 x2 y2]) (by simp [results, Try.results17, go_sem, ha, hb, hc, hd, g0, g1, f0, f1, f2, f3, f4, k0, k1, k2, k3, k4]) rfl ⟨g, cap, n, g2, cap2, n2, t, l, d, x, y, t2, l2, d2, x2, y2, rfl, h1, h2, hI, hI2, hC⟩

set_option maxRecDepth 100000 in
set_option maxHeartbeats 8000000 in
theorem drawCompareCrossings_any (a : Option Addr) (len cap : Nat) (w : World) (hb : Bytes w a len) (hl : len ≤ 100000) : Calls Try.prog 17 #[.slice a len cap] w (TrC2 w) := by
  have HB := Lib.hid hb
  clear hb
  obtain ⟨W0, hW0⟩ : ∃ W0, W0 = (((w.alloc (.cells #[.slice none 0 0] 26)).alloc (.cells #[.int .i64 0, .int .i64 0, .int .i64 0, .int .i64 0, .int .i64 0] 42)).alloc (.cells #[.slice none 0 0] 26)).alloc (.cells #[.int .i64 0, .int .i64 0, .int .i64 0, .int .i64 0, .int .i64 0] 42) := ⟨_, rfl⟩
  have hX : Ext w W0 := hW0 ▸ ((((Ext.refl w).alloc _).alloc _).alloc _).alloc _
  have hz0 : W0.heap.size = w.heap.size + 1 + 1 + 1 + 1 := by rw [hW0]; simp
  have R1 := Lib.hid (show Box W0 w.heap.size [.slice none 0 0] by rw [hW0]; exact (((Box.new rfl).alloc _).alloc _).alloc _)
  have R2 := Lib.hid (show Box W0 (w.heap.size + 1) [.int .i64 0, .int .i64 0, .int .i64 0, .int .i64 0, .int .i64 0] by rw [hW0]; exact ((Box.new5 (by simp)).alloc _).alloc _)
  have R3 := Lib.hid (show Box W0 (w.heap.size + 1 + 1) [.slice none 0 0] by rw [hW0]; exact (Box.new (vs := [.slice none 0 0]) (by simp)).alloc _)
  have R4 := Lib.hid (show Box W0 (w.heap.size + 1 + 1 + 1) [.int .i64 0, .int .i64 0, .int .i64 0, .int .i64 0, .int .i64 0] by rw [hW0]; exact Box.new5 (by simp))
  go_enter Try.func17, Try.ntmps17
  go_wp2_with fail
  rw [← hW0]
  clear hW0
  refine (from_any _ _ _ _ (HB.out.ext hX) hl).mono ?_
  rintro e w1 ⟨B, rfl, hB, hs0, hy⟩
  replace R1 := Lib.hid (R1.out.ext hy)
  replace R2 := Lib.hid (R2.out.ext hy)
  replace R3 := Lib.hid (R3.out.ext hy)
  replace R4 := Lib.hid (R4.out.ext hy)
  have hx := Lib.hid (hX.trans hy)
  have z1 := Ext.size hy
  have gB0 : w.heap.size ≤ B := by omega
  have n1 : w.heap.size ≠ B := by omega
  have n2 : w.heap.size + 1 ≠ B := by omega
  have n3 : w.heap.size + 1 + 1 ≠ B := by omega
  have n4 : w.heap.size + 1 + 1 + 1 ≠ B := by omega
  clear hy hX
  go_wp2_with fail
  refine (drawAnyT_any _ _ hs0).mono ?_
  rintro e w2 ⟨g, tc, n, rfl, h1, h41, htc, hg, hI, hs1, hc⟩
  have hgl : g < w2.heap.size := World.block_lt_of_cell? w2 _ (hI 0 (by omega)).1.choose_spec
  have z2 := hc.size
  have gB := hs0.lt
  have ng : g ≠ B := by omega
  replace hI := Lib.hid hI
  replace R1 := Lib.hid (R1.out.chg hc n1)
  replace R2 := Lib.hid (R2.out.chg hc n2)
  replace R3 := Lib.hid (R3.out.chg hc n3)
  replace R4 := Lib.hid (R4.out.chg hc n4)
  replace hx := Lib.hid (hc.ext hx.out gB0)
  clear hc hs0
  have hs0 := hs1
  clear hs1
  obtain ⟨wA, hwA⟩ : ∃ wA, wA = w2.alloc (.cells #[.slice (some ⟨g, 0, none⟩) n tc] 26) := ⟨_, rfl⟩
  have hA : Ext w2 wA := hwA ▸ (Ext.refl _).alloc _
  have zwA : wA.heap.size = w2.heap.size + 1 := by rw [hwA]; simp
  replace R1 := Lib.hid (R1.out.ext hA)
  replace R2 := Lib.hid (R2.out.ext hA)
  replace R3 := Lib.hid (R3.out.ext hA)
  replace R4 := Lib.hid (R4.out.ext hA)
  replace hI := Lib.hid (hI.out.ext hA)
  replace hx := Lib.hid (hx.out.trans hA)
  replace hs0 := hs0.ext hA
  have T := Lib.hid (show Box wA w2.heap.size [.slice (some ⟨g, 0, none⟩) n tc] by rw [hwA]; exact Box.new rfl)
  have nT : w2.heap.size ≠ B := by omega
  have ct := (T.out 0 _ rfl).1
  clear hA
  go_wp2_with fail
  rw [← hwA]
  clear hwA
  refine (drawCrossing_any B g tc n _ hs0 hI.out ng h1 h41 htc).mono ?_
  rintro e w3 ⟨t, l, d, x, y, rfl, hs1, hc⟩
  have z3 := hc.size
  clear ct
  replace R1 := Lib.hid (R1.out.chg hc n1)
  replace R2 := Lib.hid (R2.out.chg hc n2)
  replace R3 := Lib.hid (R3.out.chg hc n3)
  replace R4 := Lib.hid (R4.out.chg hc n4)
  replace T := Lib.hid (T.out.chg hc nT)
  replace hI := Lib.hid (hI.out.chg hc ng)
  replace hx := Lib.hid (hc.ext hx.out gB0)
  clear hc hs0
  have hs0 := hs1
  clear hs1
  obtain ⟨wB, hwB⟩ : ∃ wB, wB = (w3.alloc (.cells #[.int .i64 t, .int .i64 l, .int .i64 d, .int .i64 x, .int .i64 y] 42)).alloc (.cells #[.slice (some ⟨g, 0, none⟩) n tc] 26) := ⟨_, rfl⟩
  have hA : Ext w3 wB := hwB ▸ ((Ext.refl _).alloc _).alloc _
  have zB : wB.heap.size = w3.heap.size + 1 + 1 := by rw [hwB]; simp
  have A := Lib.hid (show Box wB w3.heap.size [.int .i64 t, .int .i64 l, .int .i64 d, .int .i64 x, .int .i64 y] by rw [hwB]; exact (Box.new5 rfl).alloc _)
  have U := Lib.hid (show Box wB (w3.heap.size + 1) [.slice (some ⟨g, 0, none⟩) n tc] by rw [hwB]; exact Box.new (by simp))
  have ct := (((Ext.refl w3).alloc (.cells #[.int .i64 t, .int .i64 l, .int .i64 d, .int .i64 x, .int .i64 y] 42)).cellOf (T.out 0 _ rfl).1)
  replace R1 := Lib.hid (R1.out.ext hA)
  replace R2 := Lib.hid (R2.out.ext hA)
  replace R3 := Lib.hid (R3.out.ext hA)
  replace R4 := Lib.hid (R4.out.ext hA)
  replace hI := Lib.hid (hI.out.ext hA)
  replace T := Lib.hid (T.out.ext hA)
  replace hx := Lib.hid (hx.out.trans hA)
  replace hs0 := hs0.ext hA
  have nA : w3.heap.size ≠ B := by omega
  have nU : w3.heap.size + 1 ≠ B := by omega
  clear hA
  go_wp2_with fail
  rw [← hwB]
  clear hwB ct
  refine (next_pos B _ _ hs0 (by omega)).mono ?_
  rintro e w4 ⟨r1, rfl, r10, r11, hs1, hc⟩
  have z4 := hc.size
  replace R1 := Lib.hid (R1.out.chg hc n1)
  replace R2 := Lib.hid (R2.out.chg hc n2)
  replace R3 := Lib.hid (R3.out.chg hc n3)
  replace R4 := Lib.hid (R4.out.chg hc n4)
  replace T := Lib.hid (T.out.chg hc nT)
  replace hI := Lib.hid (hI.out.chg hc ng)
  replace A := Lib.hid (A.out.chg hc nA)
  replace U := Lib.hid (U.out.chg hc nU)
  replace hx := Lib.hid (hc.ext hx.out gB0)
  clear hc hs0
  have hs0 := hs1
  clear hs1
  by_cases h0 : r1 = 0
  · have t0 : (r1 == 0) = true := beq_iff_eq.2 h0
    clear h0
    go_wp2_with fail
    refine (drawAnyT_any _ _ hs0).mono ?_
    rintro e w5 ⟨g2, tc2, n2', rfl, h12, h412, htc2, hg2, hI2, hs1, hc⟩
    have ng2 : g2 ≠ B := by have := hs0.lt; omega
    replace hI2 := Lib.hid hI2
    have z5 := hc.size
    replace R1 := Lib.hid (R1.out.chg hc n1)
    replace R2 := Lib.hid (R2.out.chg hc n2)
    replace R3 := Lib.hid (R3.out.chg hc n3)
    replace R4 := Lib.hid (R4.out.chg hc n4)
    replace T := Lib.hid (T.out.chg hc nT)
    replace hI := Lib.hid (hI.out.chg hc ng)
    replace A := Lib.hid (A.out.chg hc nA)
    replace U := Lib.hid (U.out.chg hc nU)
    replace hx := Lib.hid (hc.ext hx.out gB0)
    clear hc hs0
    have hs0 := hs1
    clear hs1
    obtain ⟨u0, u1⟩ := U.out 0 _ rfl
    obtain ⟨wE, hwE⟩ : ∃ wE, wE = w5.setCell ⟨w3.heap.size + 1, 0, none⟩ (.slice (some ⟨g2, 0, none⟩) n2' tc2) := ⟨_, rfl⟩
    have zE : wE.heap.size = w5.heap.size := by rw [hwE]; simp [World.setCell]
    have hwF := hwE
    replace R1 := Lib.hid (show Box wE _ _ by rw [hwE]; exact R1.out.away (by simp <;> omega) _)
    replace R2 := Lib.hid (show Box wE _ _ by rw [hwE]; exact R2.out.away (by simp <;> omega) _)
    replace R3 := Lib.hid (show Box wE _ _ by rw [hwE]; exact R3.out.away (by simp <;> omega) _)
    replace R4 := Lib.hid (show Box wE _ _ by rw [hwE]; exact R4.out.away (by simp <;> omega) _)
    replace T := Lib.hid (show Box wE _ _ by rw [hwE]; exact T.out.away (by simp <;> omega) _)
    replace A := Lib.hid (show Box wE _ _ by rw [hwE]; exact A.out.away (by simp <;> omega) _)
    replace U := Lib.hid (show Box wE (w3.heap.size + 1) [.slice (some ⟨g2, 0, none⟩) n2' tc2] by rw [hwE]; exact U.out.set 0 (by simp) _)
    replace hI := Lib.hid (show IntRow wE g n by rw [hwE]; exact hI.out.put (by simp <;> omega) _)
    replace hI2 := Lib.hid (show IntRow wE g2 n2' by rw [hwE]; exact hI2.out.put (by simp <;> omega) _)
    replace hx := Lib.hid (show Ext w wE by rw [hwE]; exact hx.out.setNew (by simp; omega) _)
    replace hs0 : Src wE B := by rw [hwE]; exact hs0.setCell (by simp; omega) _
    clear hwF
    go_upto_region 7 with fail
    rw [← hwE]
    clear hwE u0 u1
    have cu := (U.out 0 _ rfl).1
    go_wp2_with fail
    refine (drawCrossing_any B g2 tc2 n2' _ hs0 hI2.out ng2 h12 h412 htc2).mono ?_
    rintro e w6 ⟨t2, l2, d2, x2, y2, rfl, hs1, hc⟩
    have z6 := hc.size
    clear cu
    replace R1 := Lib.hid (R1.out.chg hc n1)
    replace R2 := Lib.hid (R2.out.chg hc n2)
    replace R3 := Lib.hid (R3.out.chg hc n3)
    replace R4 := Lib.hid (R4.out.chg hc n4)
    replace T := Lib.hid (T.out.chg hc nT)
    replace A := Lib.hid (A.out.chg hc nA)
    replace U := Lib.hid (U.out.chg hc nU)
    replace hI := Lib.hid (hI.out.chg hc ng)
    replace hI2 := Lib.hid (hI2.out.chg hc ng2)
    replace hx := Lib.hid (hc.ext hx.out gB0)
    clear hc hs0
    have hs0 := hs1
    clear hs1
    obtain ⟨wD, hwA⟩ : ∃ wA, wA = w6.alloc (.cells #[.int .i64 t2, .int .i64 l2, .int .i64 d2, .int .i64 x2, .int .i64 y2] 42) := ⟨_, rfl⟩
    have hA : Ext w6 wD := hwA ▸ (Ext.refl _).alloc _
    have zwD : wD.heap.size = w6.heap.size + 1 := by rw [hwA]; simp
    replace R1 := Lib.hid (R1.out.ext hA)
    replace R2 := Lib.hid (R2.out.ext hA)
    replace R3 := Lib.hid (R3.out.ext hA)
    replace R4 := Lib.hid (R4.out.ext hA)
    replace T := Lib.hid (T.out.ext hA)
    replace A := Lib.hid (A.out.ext hA)
    replace U := Lib.hid (U.out.ext hA)
    replace hI := Lib.hid (hI.out.ext hA)
    replace hI2 := Lib.hid (hI2.out.ext hA)
    replace hx := Lib.hid (hx.out.trans hA)
    replace hs0 := hs0.ext hA
    have D := Lib.hid (show Box wD w6.heap.size [.int .i64 t2, .int .i64 l2, .int .i64 d2, .int .i64 x2, .int .i64 y2] by rw [hwA]; exact Box.new5 rfl)
    have nD : w6.heap.size ≠ B := by have := hs0.lt; omega
    clear hA
    go_wp2_with fail
    rw [← hwA]
    clear hwA
    refine (next_pos B _ _ hs0 (by omega)).mono ?_
    rintro e w7 ⟨r3, rfl, r30, r31, hs1, hc⟩
    replace R1 := Lib.hid (R1.out.chg hc n1)
    replace R2 := Lib.hid (R2.out.chg hc n2)
    replace R3 := Lib.hid (R3.out.chg hc n3)
    replace R4 := Lib.hid (R4.out.chg hc n4)
    replace T := Lib.hid (T.out.chg hc nT)
    replace A := Lib.hid (A.out.chg hc nA)
    replace U := Lib.hid (U.out.chg hc nU)
    replace hI := Lib.hid (hI.out.chg hc ng)
    replace hI2 := Lib.hid (hI2.out.chg hc ng2)
    replace D := Lib.hid (D.out.chg hc nD)
    replace hx := Lib.hid (hc.ext hx.out gB0)
    clear hc hs0 hs1
    have hzz : w.heap.size + 1 + 1 + 1 < w2.heap.size ∧ w2.heap.size < w3.heap.size ∧ w3.heap.size + 1 < w6.heap.size := by omega
    have hgg : w.heap.size + 1 + 1 + 1 < g := by omega
    have hgh : w.heap.size + 1 + 1 + 1 < g2 := by omega
    obtain ⟨e0, ef0⟩ := R1.out 0 _ rfl
    obtain ⟨⟨k0, k1, k2, k3, k4⟩, l0, l1, l2', l3, l4⟩ := R2.out.five
    obtain ⟨e1, ef1⟩ := R3.out 0 _ rfl
    obtain ⟨⟨m0, m1, m2, m3, m4⟩, o0, o1, o2, o3, o4⟩ := R4.out.five
    have ct := (T.out 0 _ rfl).1
    have cu := (U.out 0 _ rfl).1
    obtain ⟨⟨a0, a1, a2, a3, a4⟩, _⟩ := A.out.five
    obtain ⟨⟨b0, b1, b2, b3, b4⟩, _⟩ := D.out.five
    have hxx := hx.out
    have hII := hI.out
    have hIJ := hI2.out
    by_cases h6 : r3 = 0
    · have t6 : (r3 == 0) = true := beq_iff_eq.2 h6
      clear h6 z1 z2 z3 z4 z6
      go_wp2_with fail
      go_region
      all_goals
        go_wp2
        exact cx_done (m := w.heap.size) (g := g) (n := n) (cap := tc) (g2 := g) (n2 := n) (cap2 := tc) (Box.away5 ((Box.away5 (R1.out.set 0 (by simp) _) (by omega)).away (by simp <;> omega) _) (by omega)).drew (Box.away5 ((Box.set5 (R2.out.away (by simp <;> omega) _)).away (by simp <;> omega) _) (by omega)).drew (Box.away5 ((Box.away5 (R3.out.away (by simp <;> omega) _) (by omega)).set 0 (by simp) _) (by omega)).drew (Box.set5 ((Box.away5 (R4.out.away (by simp <;> omega) _) (by omega)).away (by simp <;> omega) _)).drew h41 h41 (by repeat (first | with_reducible assumption | with_reducible apply IntRow.drew | (with_reducible refine IntRow.put ?_ (by simp <;> omega) _))) (by repeat (first | with_reducible assumption | with_reducible apply IntRow.drew | (with_reducible refine IntRow.put ?_ (by simp <;> omega) _))) (by repeat (first | with_reducible assumption | with_reducible apply Ext.drew | (with_reducible refine Ext.setNew ?_ (by simp <;> omega) _))) rfl rfl rfl rfl
    · have t6 : (r3 == 0) = false := beq_eq_false_iff_ne.2 h6
      clear h6 z1 z2 z3 z4 z6
      go_wp2_with fail
      go_region
      all_goals
        go_wp2
        exact cx_done (m := w.heap.size) (g := g) (n := n) (cap := tc) (g2 := g2) (n2 := n2') (cap2 := tc2) (Box.away5 ((Box.away5 (R1.out.set 0 (by simp) _) (by omega)).away (by simp <;> omega) _) (by omega)).drew (Box.away5 ((Box.set5 (R2.out.away (by simp <;> omega) _)).away (by simp <;> omega) _) (by omega)).drew (Box.away5 ((Box.away5 (R3.out.away (by simp <;> omega) _) (by omega)).set 0 (by simp) _) (by omega)).drew (Box.set5 ((Box.away5 (R4.out.away (by simp <;> omega) _) (by omega)).away (by simp <;> omega) _)).drew h41 h412 (by repeat (first | with_reducible assumption | with_reducible apply IntRow.drew | (with_reducible refine IntRow.put ?_ (by simp <;> omega) _))) (by repeat (first | with_reducible assumption | with_reducible apply IntRow.drew | (with_reducible refine IntRow.put ?_ (by simp <;> omega) _))) (by repeat (first | with_reducible assumption | with_reducible apply Ext.drew | (with_reducible refine Ext.setNew ?_ (by simp <;> omega) _))) rfl rfl rfl rfl
  · have t0 : (r1 == 0) = false := beq_eq_false_iff_ne.2 h0
    clear h0
    have cu := (U.out 0 _ rfl).1
    go_wp2_with fail
    refine (drawCrossing_any B g tc n _ hs0 hI.out ng h1 h41 htc).mono ?_
    rintro e w6 ⟨t2, l2, d2, x2, y2, rfl, hs1, hc⟩
    have z6 := hc.size
    clear cu
    replace R1 := Lib.hid (R1.out.chg hc n1)
    replace R2 := Lib.hid (R2.out.chg hc n2)
    replace R3 := Lib.hid (R3.out.chg hc n3)
    replace R4 := Lib.hid (R4.out.chg hc n4)
    replace T := Lib.hid (T.out.chg hc nT)
    replace A := Lib.hid (A.out.chg hc nA)
    replace U := Lib.hid (U.out.chg hc nU)
    replace hI := Lib.hid (hI.out.chg hc ng)
    replace hx := Lib.hid (hc.ext hx.out gB0)
    clear hc hs0
    have hs0 := hs1
    clear hs1
    obtain ⟨wD, hwA⟩ : ∃ wA, wA = w6.alloc (.cells #[.int .i64 t2, .int .i64 l2, .int .i64 d2, .int .i64 x2, .int .i64 y2] 42) := ⟨_, rfl⟩
    have hA : Ext w6 wD := hwA ▸ (Ext.refl _).alloc _
    have zwD : wD.heap.size = w6.heap.size + 1 := by rw [hwA]; simp
    replace R1 := Lib.hid (R1.out.ext hA)
    replace R2 := Lib.hid (R2.out.ext hA)
    replace R3 := Lib.hid (R3.out.ext hA)
    replace R4 := Lib.hid (R4.out.ext hA)
    replace T := Lib.hid (T.out.ext hA)
    replace A := Lib.hid (A.out.ext hA)
    replace U := Lib.hid (U.out.ext hA)
    replace hI := Lib.hid (hI.out.ext hA)
    replace hx := Lib.hid (hx.out.trans hA)
    replace hs0 := hs0.ext hA
    have D := Lib.hid (show Box wD w6.heap.size [.int .i64 t2, .int .i64 l2, .int .i64 d2, .int .i64 x2, .int .i64 y2] by rw [hwA]; exact Box.new5 rfl)
    have nD : w6.heap.size ≠ B := by have := hs0.lt; omega
    clear hA
    go_wp2_with fail
    rw [← hwA]
    clear hwA
    refine (next_pos B _ _ hs0 (by omega)).mono ?_
    rintro e w7 ⟨r3, rfl, r30, r31, hs1, hc⟩
    replace R1 := Lib.hid (R1.out.chg hc n1)
    replace R2 := Lib.hid (R2.out.chg hc n2)
    replace R3 := Lib.hid (R3.out.chg hc n3)
    replace R4 := Lib.hid (R4.out.chg hc n4)
    replace T := Lib.hid (T.out.chg hc nT)
    replace A := Lib.hid (A.out.chg hc nA)
    replace U := Lib.hid (U.out.chg hc nU)
    replace hI := Lib.hid (hI.out.chg hc ng)
    replace D := Lib.hid (D.out.chg hc nD)
    replace hx := Lib.hid (hc.ext hx.out gB0)
    clear hc hs0 hs1
    have hzz : w.heap.size + 1 + 1 + 1 < w2.heap.size ∧ w2.heap.size < w3.heap.size ∧ w3.heap.size + 1 < w6.heap.size := by omega
    have hgg : w.heap.size + 1 + 1 + 1 < g := by omega
    have hgh : w.heap.size + 1 + 1 + 1 < g := by omega
    obtain ⟨e0, ef0⟩ := R1.out 0 _ rfl
    obtain ⟨⟨k0, k1, k2, k3, k4⟩, l0, l1, l2', l3, l4⟩ := R2.out.five
    obtain ⟨e1, ef1⟩ := R3.out 0 _ rfl
    obtain ⟨⟨m0, m1, m2, m3, m4⟩, o0, o1, o2, o3, o4⟩ := R4.out.five
    have ct := (T.out 0 _ rfl).1
    have cu := (U.out 0 _ rfl).1
    obtain ⟨⟨a0, a1, a2, a3, a4⟩, _⟩ := A.out.five
    obtain ⟨⟨b0, b1, b2, b3, b4⟩, _⟩ := D.out.five
    have hxx := hx.out
    have hII := hI.out
    have hIJ := hI.out
    by_cases h6 : r3 = 0
    · have t6 : (r3 == 0) = true := beq_iff_eq.2 h6
      clear h6 z1 z2 z3 z4 z6
      go_wp2_with fail
      go_region
      all_goals
        go_wp2
        exact cx_done (m := w.heap.size) (g := g) (n := n) (cap := tc) (g2 := g) (n2 := n) (cap2 := tc) (Box.away5 ((Box.away5 (R1.out.set 0 (by simp) _) (by omega)).away (by simp <;> omega) _) (by omega)).drew (Box.away5 ((Box.set5 (R2.out.away (by simp <;> omega) _)).away (by simp <;> omega) _) (by omega)).drew (Box.away5 ((Box.away5 (R3.out.away (by simp <;> omega) _) (by omega)).set 0 (by simp) _) (by omega)).drew (Box.set5 ((Box.away5 (R4.out.away (by simp <;> omega) _) (by omega)).away (by simp <;> omega) _)).drew h41 h41 (by repeat (first | with_reducible assumption | with_reducible apply IntRow.drew | (with_reducible refine IntRow.put ?_ (by simp <;> omega) _))) (by repeat (first | with_reducible assumption | with_reducible apply IntRow.drew | (with_reducible refine IntRow.put ?_ (by simp <;> omega) _))) (by repeat (first | with_reducible assumption | with_reducible apply Ext.drew | (with_reducible refine Ext.setNew ?_ (by simp <;> omega) _))) rfl rfl rfl rfl
    · have t6 : (r3 == 0) = false := beq_eq_false_iff_ne.2 h6
      clear h6 z1 z2 z3 z4 z6
      go_wp2_with fail
      go_region
      all_goals
        go_wp2
        exact cx_done (m := w.heap.size) (g := g) (n := n) (cap := tc) (g2 := g) (n2 := n) (cap2 := tc) (Box.away5 ((Box.away5 (R1.out.set 0 (by simp) _) (by omega)).away (by simp <;> omega) _) (by omega)).drew (Box.away5 ((Box.set5 (R2.out.away (by simp <;> omega) _)).away (by simp <;> omega) _) (by omega)).drew (Box.away5 ((Box.away5 (R3.out.away (by simp <;> omega) _) (by omega)).set 0 (by simp) _) (by omega)).drew (Box.set5 ((Box.away5 (R4.out.away (by simp <;> omega) _) (by omega)).away (by simp <;> omega) _)).drew h41 h41 (by repeat (first | with_reducible assumption | with_reducible apply IntRow.drew | (with_reducible refine IntRow.put ?_ (by simp <;> omega) _))) (by repeat (first | with_reducible assumption | with_reducible apply IntRow.drew | (with_reducible refine IntRow.put ?_ (by simp <;> omega) _))) (by repeat (first | with_reducible assumption | with_reducible apply Ext.drew | (with_reducible refine Ext.setNew ?_ (by simp <;> omega) _))) rfl rfl rfl rfl

end Go.Proofs.Ytccggjhmnbebbaa.Trk
