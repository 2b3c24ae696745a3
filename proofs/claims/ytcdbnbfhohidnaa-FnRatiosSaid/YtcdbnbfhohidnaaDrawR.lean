/- The contract of DrawCompareRatios: two ratios come out, and nothing that was there is written. -/
import Derived.Test.YtcdbnbfhohidnaaDraw
import Derived.Test.YtcdbnbfhohidnaaCel
import Derived.Test.YtcdbnbfhohidnaaPts
import Derived.BigRegion
namespace Go.Proofs.Ytcdbnbfhohidnaa.Draw
open Go.ChangeShapes Go.WideShapes Go.ChangeAt Go.RowKit
open Go.Proofs.Ytcdbnbfhohidnaa.Num Go.Proofs.Ytcdbnbfhohidnaa.Kit Go.Proofs.Ytcdbnbfhohidnaa.Pts
set_option linter.unusedVariables false
set_option linter.unusedSimpArgs false

/-- Two pairs of numbers come out. -/
def TwoPts (w : World) (e : Ending) (w' : World) : Prop := ∃ x y u v : Int, e = .returned (.tuple #[Pt x y, Pt u v]) ∧ Ext w w'
theorem twoRatios_done {w F : World} {tmps : Array Value} {x y u v : Int} {n m : Nat} (p : Box F n [.int .i64 x, .int .i64 y]) (q : Box F m [.int .i64 u, .int .i64 v]) (hx : Ext w F)
    (h2 : tmps[2]? = some (.pointer (some ⟨n, 0, none⟩))) (h3 : tmps[3]? = some (.pointer (some ⟨m, 0, none⟩))) : bodyPost Try.prog Try.f30 (TwoPts w) Exit.ret ⟨tmps, []⟩ F := by
  obtain ⟨⟨p0, p1⟩, _⟩ := p.two
  obtain ⟨⟨q0, q1⟩, _⟩ := q.two
  exact bodyPost_ret (v := .tuple #[Pt x y, Pt u v]) (by simp [results, Try.results30, go_sem, h2, h3, p0, p1, q0, q1]) rfl ⟨x, y, u, v, rfl, hx⟩

set_option maxHeartbeats 2000000 in
theorem drawCompareRatios_any (a : Option Addr) (len cap : Nat) (w : World) (hb : Bytes w a len) (hl : len ≤ 100000) : Calls Try.prog 30 #[.slice a len cap] w (TwoPts w) := by
  have HB := Lib.hid hb
  clear hb
  have P := Lib.hid ((Box.new2 (w := w) (n := w.heap.size) (x := .int .i64 0) (y := .int .i64 0) (t := 33) rfl).alloc (.cells #[.int .i64 0, .int .i64 0] 33))
  have Q := Lib.hid (Box.new2 (w := w.alloc (.cells #[.int .i64 0, .int .i64 0] 33)) (n := w.heap.size + 1) (x := .int .i64 0) (y := .int .i64 0) (t := 33) (by simp))
  have hx := ((Ext.refl w).alloc (.cells #[.int .i64 0, .int .i64 0] 33)).alloc (.cells #[.int .i64 0, .int .i64 0] 33)
  go_enter Try.func30, Try.ntmps30
  go_wp2_with fail
  refine (from_any a len cap _ (HB.out.ext hx) hl).mono ?_
  rintro e w1 ⟨B, rfl, hB, hs, hy⟩
  simp at hB
  have nP : w.heap.size ≠ B := by omega
  have nQ : w.heap.size + 1 ≠ B := by omega
  have hB0 : w.heap.size ≤ B := by omega
  replace P := Lib.hid (P.out.ext hy)
  replace Q := Lib.hid (Q.out.ext hy)
  replace hx := hx.trans hy
  clear hy
  go_wp2_with fail
  refine (next_pos B _ _ (by repeat (first | with_reducible assumption | with_reducible apply Src.alloc | with_reducible apply Src.drew | with_reducible apply Src.drewN)) (by omega)).mono ?_
  rintro e v1 ⟨r1, rfl, r10, r11, hs1, hc⟩
  replace P := Lib.hid (P.out.chg hc nP)
  replace Q := Lib.hid (Q.out.chg hc nQ)
  replace hx := hc.ext hx hB0
  clear hc hs
  have hs := hs1
  clear hs1
  have lB := hs.lt
  clear lB
  go_wp2_with fail
  refine (next_pos B _ _ (by repeat (first | with_reducible assumption | with_reducible apply Src.alloc | with_reducible apply Src.drew | with_reducible apply Src.drewN)) (by omega)).mono ?_
  rintro e v2 ⟨r2, rfl, r20, r21, hs2, hc⟩
  replace P := Lib.hid (P.out.chg hc nP)
  replace Q := Lib.hid (Q.out.chg hc nQ)
  replace hx := hc.ext hx hB0
  clear hc hs
  have hs := hs2
  clear hs2
  have lB := hs.lt
  clear lB
  go_wp2_with fail
  refine (next_pos B _ _ (by repeat (first | with_reducible assumption | with_reducible apply Src.alloc | with_reducible apply Src.drew | with_reducible apply Src.drewN)) (by omega)).mono ?_
  rintro e v3 ⟨r3, rfl, r30, r31, hs3, hc⟩
  replace P := Lib.hid (P.out.chg hc nP)
  replace Q := Lib.hid (Q.out.chg hc nQ)
  replace hx := hc.ext hx hB0
  clear hc hs
  have hs := hs3
  clear hs3
  have lB := hs.lt
  replace P := Lib.hid (P.out.alloc (.cells #[.int .i64 (r3 - (1 + r1)), .int .i64 (1 + r1)] 33))
  replace Q := Lib.hid (Q.out.alloc (.cells #[.int .i64 (r3 - (1 + r1)), .int .i64 (1 + r1)] 33))
  have X := Lib.hid (Box.new2 (w := v3) (n := v3.heap.size) (x := .int .i64 (r3 - (1 + r1))) (y := .int .i64 (1 + r1)) (t := 33) rfl)
  replace hx := hx.alloc (.cells #[.int .i64 (r3 - (1 + r1)), .int .i64 (1 + r1)] 33)
  replace hs := hs.alloc (.cells #[.int .i64 (r3 - (1 + r1)), .int .i64 (1 + r1)] 33)
  have nX : v3.heap.size ≠ B := by omega
  have gX : B < v3.heap.size := by omega
  clear lB
  go_wp2_with fail
  refine (next_pos B _ _ (by repeat (first | with_reducible assumption | with_reducible apply Src.alloc | with_reducible apply Src.drew | with_reducible apply Src.drewN)) (by omega)).mono ?_
  rintro e v4 ⟨r4, rfl, r40, r41, hs4, hc⟩
  replace P := Lib.hid (P.out.chg hc nP)
  replace Q := Lib.hid (Q.out.chg hc nQ)
  replace X := Lib.hid (X.out.chg hc nX)
  replace hx := hc.ext hx hB0
  clear hc hs
  have hs := hs4
  clear hs4
  have lB := hs.lt
  have lX := X.out.lt
  replace P := Lib.hid (P.out.alloc (.cells #[.int .i64 (r4 - (1 + r2)), .int .i64 (1 + r2)] 33))
  replace Q := Lib.hid (Q.out.alloc (.cells #[.int .i64 (r4 - (1 + r2)), .int .i64 (1 + r2)] 33))
  replace X := Lib.hid (X.out.alloc (.cells #[.int .i64 (r4 - (1 + r2)), .int .i64 (1 + r2)] 33))
  have Y := Lib.hid (Box.new2 (w := v4) (n := v4.heap.size) (x := .int .i64 (r4 - (1 + r2))) (y := .int .i64 (1 + r2)) (t := 33) rfl)
  replace hx := hx.alloc (.cells #[.int .i64 (r4 - (1 + r2)), .int .i64 (1 + r2)] 33)
  replace hs := hs.alloc (.cells #[.int .i64 (r4 - (1 + r2)), .int .i64 (1 + r2)] 33)
  have nY : v4.heap.size ≠ B := by omega
  have gY : B < v4.heap.size := by omega
  clear lB
  go_wp2_with fail
  refine (next_pos B _ _ (by repeat (first | with_reducible assumption | with_reducible apply Src.alloc | with_reducible apply Src.drew | with_reducible apply Src.drewN)) (by omega)).mono ?_
  rintro e v5 ⟨r5, rfl, r50, r51, hs5, hc⟩
  replace P := Lib.hid (P.out.chg hc nP)
  replace Q := Lib.hid (Q.out.chg hc nQ)
  replace X := Lib.hid (X.out.chg hc nX)
  replace Y := Lib.hid (Y.out.chg hc nY)
  replace hx := hc.ext hx hB0
  clear hc hs
  have hs := hs5
  clear hs5
  have lB := hs.lt
  have lY := Y.out.lt
  have lX2 := X.out.lt
  have lP := P.out.lt
  have lQ := Q.out.lt
  by_cases h : r5 = 2
  · skip
    have t0 : (r5 == 0) = false := beq_eq_false_iff_ne.2 (by omega)
    have t1 : (r5 == 1) = false := beq_eq_false_iff_ne.2 (by omega)
    have t2 : (r5 == 2) = true := beq_iff_eq.2 h
    clear h
    obtain ⟨⟨x0, x1⟩, x2, x3⟩ := X.out.two
    obtain ⟨⟨y0, y1⟩, y2, y3⟩ := Y.out.two
    obtain ⟨⟨p0, p1⟩, p2, p3⟩ := P.out.two
    obtain ⟨⟨q0, q1⟩, q2, q3⟩ := Q.out.two
    go_wp2_with fail
    go_region
    all_goals
      go_wp2
      exact twoRatios_done (n := w.heap.size) (m := w.heap.size + 1) ((Box.set2 (P.out.away (p := ⟨v4.heap.size, 0, none⟩) (by simp; omega) _)).away2 (by omega)).drew (Box.set2 (Box.away2 (Q.out.away (p := ⟨v4.heap.size, 0, none⟩) (by simp; omega) _) (by omega))).drew (by repeat (first | with_reducible exact hx | with_reducible refine Ext.drew ?_ | (with_reducible refine Ext.setNew ?_ (by simp <;> omega) _))) rfl rfl
  have h2 := h
  clear h
  by_cases h : r5 = 3
  · skip
    have t0 : (r5 == 0) = false := beq_eq_false_iff_ne.2 (by omega)
    have t1 : (r5 == 1) = false := beq_eq_false_iff_ne.2 (by omega)
    have t2 : (r5 == 2) = false := beq_eq_false_iff_ne.2 (by omega)
    have t3 : (r5 == 3) = true := beq_iff_eq.2 h
    clear h
    obtain ⟨⟨x0, x1⟩, x2, x3⟩ := X.out.two
    obtain ⟨⟨y0, y1⟩, y2, y3⟩ := Y.out.two
    obtain ⟨⟨p0, p1⟩, p2, p3⟩ := P.out.two
    obtain ⟨⟨q0, q1⟩, q2, q3⟩ := Q.out.two
    go_wp2_with fail
    go_region
    all_goals
      go_wp2
      exact twoRatios_done (n := w.heap.size) (m := w.heap.size + 1) ((Box.set2 (P.out.away2 (m := v4.heap.size) (by omega))).away2 (by omega)).drew (Box.set2 (Box.away2 (Q.out.away2 (m := v4.heap.size) (by omega)) (by omega))).drew (by repeat (first | with_reducible exact hx | with_reducible refine Ext.drew ?_ | (with_reducible refine Ext.setNew ?_ (by simp <;> omega) _))) rfl rfl
  have h3 := h
  clear h
  by_cases h : r5 = 0
  · skip
    have t0 : (r5 == 0) = true := beq_iff_eq.2 h
    clear h h2 h3
    obtain ⟨⟨x0, x1⟩, x2, x3⟩ := X.out.two
    obtain ⟨⟨y0, y1⟩, y2, y3⟩ := Y.out.two
    obtain ⟨⟨p0, p1⟩, p2, p3⟩ := P.out.two
    obtain ⟨⟨q0, q1⟩, q2, q3⟩ := Q.out.two
    go_wp2_with fail
    refine (next_pos B _ _ ((hs.setCell gX _).setCell gX _) (by omega)).mono ?_
    rintro e v6 ⟨r6, rfl, r60, r61, hs6, hc⟩
    replace P := Lib.hid ((P.out.away2 (by omega)).chg hc nP)
    replace Q := Lib.hid ((Q.out.away2 (by omega)).chg hc nQ)
    replace X := Lib.hid ((X.out.set2 (u := .int .i64 99999999999999) (v := .int .i64 100000000000000)).chg hc nX)
    replace Y := Lib.hid ((Y.out.away2 (by omega)).chg hc nY)
    replace hx := hc.ext ((hx.setNew (p := ⟨v3.heap.size, 0, none⟩) (by simp; omega) _).setNew (p := ⟨v3.heap.size, 1, none⟩) (by simp; omega) _) hB0
    clear hc hs x0 x1 x2 x3 y0 y1 y2 y3 p0 p1 p2 p3 q0 q1 q2 q3
    go_wp2_with fail
    refine (next_pos B _ _ hs6 (by omega)).mono ?_
    rintro e v7 ⟨r7, rfl, r70, r71, hs7, hc⟩
    replace P := Lib.hid (P.out.chg hc nP)
    replace Q := Lib.hid (Q.out.chg hc nQ)
    replace X := Lib.hid (X.out.chg hc nX)
    replace Y := Lib.hid (Y.out.chg hc nY)
    replace hx := hc.ext hx hB0
    clear hc hs6
    obtain ⟨⟨x0, x1⟩, x2, x3⟩ := X.out.two
    obtain ⟨⟨y0, y1⟩, y2, y3⟩ := Y.out.two
    obtain ⟨⟨p0, p1⟩, p2, p3⟩ := P.out.two
    obtain ⟨⟨q0, q1⟩, q2, q3⟩ := Q.out.two
    go_wp2_with fail
    go_region
    all_goals
      go_wp2
      exact twoRatios_done (n := w.heap.size) (m := w.heap.size + 1) ((Box.set2 (P.out.away2 (m := v4.heap.size) (by omega))).away2 (by omega)).drew (Box.set2 (Box.away2 (Q.out.away2 (m := v4.heap.size) (by omega)) (by omega))).drew (by repeat (first | with_reducible exact hx | with_reducible refine Ext.drew ?_ | (with_reducible refine Ext.setNew ?_ (by simp <;> omega) _))) rfl rfl
  have h0 := h
  clear h
  by_cases h : r5 = 1
  · skip
    have t0 : (r5 == 0) = false := beq_eq_false_iff_ne.2 (by omega)
    have t1 : (r5 == 1) = true := beq_iff_eq.2 h
    clear h h0 h2 h3
    go_wp2_with fail
    refine (next_pos B _ _ (hs.alloc _) (by omega)).mono ?_
    rintro e v6 ⟨r6, rfl, r60, r61, hs6, hc⟩
    obtain ⟨z, hz, hor⟩ := pick3 hc hs r60 r61
    replace P := Lib.hid ((P.out.alloc _).chg hc nP)
    replace Q := Lib.hid ((Q.out.alloc _).chg hc nQ)
    replace X := Lib.hid ((X.out.alloc _).chg hc nX)
    replace Y := Lib.hid ((Y.out.alloc _).chg hc nY)
    replace hx := hc.ext (hx.alloc _) hB0
    clear hc hs hor
    obtain ⟨⟨x0, x1⟩, x2, x3⟩ := X.out.two
    obtain ⟨⟨y0, y1⟩, y2, y3⟩ := Y.out.two
    obtain ⟨⟨p0, p1⟩, p2, p3⟩ := P.out.two
    obtain ⟨⟨q0, q1⟩, q2, q3⟩ := Q.out.two
    go_wp2_with fail
    go_region
    all_goals
      go_wp2
      exact twoRatios_done (n := w.heap.size) (m := w.heap.size + 1) ((Box.set2 (P.out.away (p := ⟨v3.heap.size, 1, none⟩) (by simp; omega) _)).away2 (by omega)).drew (Box.set2 (Box.away2 (Q.out.away (p := ⟨v3.heap.size, 1, none⟩) (by simp; omega) _) (by omega))).drew (by repeat (first | with_reducible exact hx | with_reducible refine Ext.drew ?_ | (with_reducible refine Ext.setNew ?_ (by simp <;> omega) _))) rfl rfl
  · have t0 : (r5 == 0) = false := beq_eq_false_iff_ne.2 h0
    have t1 : (r5 == 1) = false := beq_eq_false_iff_ne.2 h
    have t2 : (r5 == 2) = false := beq_eq_false_iff_ne.2 h2
    have t3 : (r5 == 3) = false := beq_eq_false_iff_ne.2 h3
    clear h h0 h2 h3
    obtain ⟨⟨x0, x1⟩, x2, x3⟩ := X.out.two
    obtain ⟨⟨y0, y1⟩, y2, y3⟩ := Y.out.two
    obtain ⟨⟨p0, p1⟩, p2, p3⟩ := P.out.two
    obtain ⟨⟨q0, q1⟩, q2, q3⟩ := Q.out.two
    go_wp2_with fail
    go_region
    all_goals
      go_wp2
      exact twoRatios_done (n := w.heap.size) (m := w.heap.size + 1) ((Box.set2 P.out).away2 (by omega)).drew (Box.set2 (Box.away2 Q.out (by omega))).drew (by repeat (first | with_reducible exact hx | with_reducible refine Ext.drew ?_ | (with_reducible refine Ext.setNew ?_ (by simp <;> omega) _))) rfl rfl

end Go.Proofs.Ytcdbnbfhohidnaa.Draw
