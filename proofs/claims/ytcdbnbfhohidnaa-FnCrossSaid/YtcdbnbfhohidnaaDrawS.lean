/- Contracts of chapter 2's draws of segments. -/
import Derived.Test.YtcdbnbfhohidnaaDraw3
import Derived.Test.YtcdbnbfhohidnaaCel
import Derived.Test.YtcdbnbfhohidnaaSeg
import Derived.BigRegion
namespace Go.Proofs.Ytcdbnbfhohidnaa.Draw
open Go.ChangeShapes Go.WideShapes Go.ChangeAt Go.RowKit
open Go.Proofs.Ytcdbnbfhohidnaa.Num Go.Proofs.Ytcdbnbfhohidnaa.Kit Go.Proofs.Ytcdbnbfhohidnaa.Pts Go.Proofs.Ytcdbnbfhohidnaa.Seg
set_option linter.unusedVariables false
set_option linter.unusedSimpArgs false

/-- A segment comes out. -/
def ASg (B : Nat) (w : World) (e : Ending) (w' : World) : Prop := ∃ a b c d : Int, e = .returned (Sg a b c d) ∧ Src w' B ∧ Chg B w w'
/-- Two segments come out. -/
def ASg2 (B : Nat) (w : World) (e : Ending) (w' : World) : Prop := ∃ a b c d p q u v : Int, e = .returned (.tuple #[Sg a b c d, Sg p q u v]) ∧ Src w' B ∧ Chg B w w'

theorem sd_done {B n : Nat} {w F : World} {tmps : Array Value} {a b c d : Int} (R : Box F n [.int .i64 a, .int .i64 b, .int .i64 c, .int .i64 d]) (hs : Src F B) (hC : Chg B w F) (ha : tmps[2]? = some (.pointer (some ⟨n, 0, none⟩))) :
    bodyPost Try.prog Try.f76 (ASg B w) Exit.ret ⟨tmps, []⟩ F := by
  obtain ⟨⟨g0, g1, g2, g3⟩, _⟩ := R.four
  exact bodyPost_ret (v := Sg a b c d) (by simp [results, Try.results76, go_sem, ha, g0, g1, g2, g3]) rfl ⟨a, b, c, d, rfl, hs, hC⟩
theorem sa_done {B n : Nat} {w F : World} {tmps : Array Value} {a b c d : Int} (R : Box F n [.int .i64 a, .int .i64 b, .int .i64 c, .int .i64 d]) (hs : Src F B) (hC : Chg B w F) (ha : tmps[2]? = some (.pointer (some ⟨n, 0, none⟩))) :
    bodyPost Try.prog Try.f52 (ASg B w) Exit.ret ⟨tmps, []⟩ F := by
  obtain ⟨⟨g0, g1, g2, g3⟩, _⟩ := R.four
  exact bodyPost_ret (v := Sg a b c d) (by simp [results, Try.results52, go_sem, ha, g0, g1, g2, g3]) rfl ⟨a, b, c, d, rfl, hs, hC⟩

set_option maxHeartbeats 1000000 in
theorem drawS_any (B : Nat) (w : World) (hs : Src w B) : Calls Try.prog 76 #[.pointer (some ⟨B, 0, none⟩)] w (ASg B w) := by
  have hB := hs.lt
  have nR : w.heap.size ≠ B := by omega
  have R := Lib.hid (Box.new4 (w := w) (n := w.heap.size) (x := .int .i64 0) (y := .int .i64 0) (z := .int .i64 0) (u := .int .i64 0) (t := 27) rfl)
  have hC := (Chg.refl B w).alloc (.cells #[.int .i64 0, .int .i64 0, .int .i64 0, .int .i64 0] 27)
  go_enter Try.func76, Try.ntmps76
  go_wp2_with fail
  refine (drawPoint_any B _ (by repeat (first | with_reducible assumption | with_reducible apply Src.alloc | with_reducible apply Src.drew | with_reducible apply Src.drewN))).mono ?_
  rintro e w1 ⟨x, y, rfl, x1, y1, hs1, hc⟩
  replace R := Lib.hid (R.out.chg hc nR)
  replace hC := hC.trans hc
  clear hc hs
  go_wp2_with fail
  refine (drawPoint_any B _ hs1).mono ?_
  rintro e w2 ⟨u, v, rfl, u1, v1, hs2, hc⟩
  replace R := Lib.hid (R.out.chg hc nR)
  replace hC := hC.trans hc
  clear hc hs1
  obtain ⟨⟨k0, k1, k2, k3⟩, l0, l1, l2, l3⟩ := R.out.four
  have lR := R.out.lt
  have lB := hs2.lt
  by_cases h1 : x = u
  · have t1 : (x == u) = true := beq_iff_eq.2 h1
    by_cases h2 : y = v
    · have t2 : (y == v) = true := beq_iff_eq.2 h2
      clear h1 h2
      by_cases h3 : y < 0
      · go_wp2
        exact sd_done (n := w.heap.size) ((Box.set4 R.out).alloc _ |>.alloc _) (by repeat (first | with_reducible assumption | with_reducible apply Src.alloc | with_reducible apply Src.drew | (with_reducible refine Src.setCell ?_ (by simp <;> omega) _))) (by repeat (first | with_reducible assumption | with_reducible apply Chg.alloc | with_reducible apply Chg.drew | (with_reducible refine Chg.setNew ?_ (by simp <;> omega) _))) rfl
      · go_wp2
        exact sd_done (n := w.heap.size) ((Box.set4 R.out).alloc _ |>.alloc _) (by repeat (first | with_reducible assumption | with_reducible apply Src.alloc | with_reducible apply Src.drew | (with_reducible refine Src.setCell ?_ (by simp <;> omega) _))) (by repeat (first | with_reducible assumption | with_reducible apply Chg.alloc | with_reducible apply Chg.drew | (with_reducible refine Chg.setNew ?_ (by simp <;> omega) _))) rfl
    · have t2 : (y == v) = false := beq_eq_false_iff_ne.2 h2
      clear h1 h2
      go_wp2
      exact sd_done (n := w.heap.size) ((Box.set4 R.out).alloc _ |>.alloc _) (by repeat (first | with_reducible assumption | with_reducible apply Src.alloc | with_reducible apply Src.drew | (with_reducible refine Src.setCell ?_ (by simp <;> omega) _))) (by repeat (first | with_reducible assumption | with_reducible apply Chg.alloc | with_reducible apply Chg.drew | (with_reducible refine Chg.setNew ?_ (by simp <;> omega) _))) rfl
  · have t1 : (x == u) = false := beq_eq_false_iff_ne.2 h1
    clear h1
    go_wp2
    exact sd_done (n := w.heap.size) ((Box.set4 R.out).alloc _ |>.alloc _) (by repeat (first | with_reducible assumption | with_reducible apply Src.alloc | with_reducible apply Src.drew | (with_reducible refine Src.setCell ?_ (by simp <;> omega) _))) (by repeat (first | with_reducible assumption | with_reducible apply Chg.alloc | with_reducible apply Chg.drew | (with_reducible refine Chg.setNew ?_ (by simp <;> omega) _))) rfl

set_option maxHeartbeats 1000000 in
theorem drawSAny_any (B : Nat) (w : World) (hs : Src w B) : Calls Try.prog 52 #[.pointer (some ⟨B, 0, none⟩)] w (ASg B w) := by
  have hB := hs.lt
  have nR : w.heap.size ≠ B := by omega
  have R := Lib.hid (Box.new4 (w := w) (n := w.heap.size) (x := .int .i64 0) (y := .int .i64 0) (z := .int .i64 0) (u := .int .i64 0) (t := 27) rfl)
  have hC := (Chg.refl B w).alloc (.cells #[.int .i64 0, .int .i64 0, .int .i64 0, .int .i64 0] 27)
  go_enter Try.func52, Try.ntmps52
  go_wp2_with fail
  refine (drawS_any B _ (by repeat (first | with_reducible assumption | with_reducible apply Src.alloc | with_reducible apply Src.drew | with_reducible apply Src.drewN))).mono ?_
  rintro e w1 ⟨a, b, c, d, rfl, hs1, hc⟩
  have lX := (R.out.chg hc nR).lt
  replace R := Lib.hid ((R.out.chg hc nR).alloc (.cells #[.int .i64 a, .int .i64 b, .int .i64 c, .int .i64 d] 27))
  replace hC := (hC.trans hc).alloc (.cells #[.int .i64 a, .int .i64 b, .int .i64 c, .int .i64 d] 27)
  have X := Lib.hid (Box.new4 (w := w1) (n := w1.heap.size) (x := .int .i64 a) (y := .int .i64 b) (z := .int .i64 c) (u := .int .i64 d) (t := 27) rfl)
  have nX : w1.heap.size ≠ B := Nat.ne_of_gt hs1.lt
  have gX : B < w1.heap.size := hs1.lt
  clear hc hs
  go_wp2_with fail
  refine (next_pos B _ _ (by repeat (first | with_reducible assumption | with_reducible apply Src.alloc | with_reducible apply Src.drew | with_reducible apply Src.drewN)) (by omega)).mono ?_
  rintro e w2 ⟨r, rfl, r0, r1, hs2, hc⟩
  replace R := Lib.hid (R.out.chg hc nR)
  replace X := Lib.hid (X.out.chg hc nX)
  replace hC := hC.trans hc
  clear hc
  clear hs1
  obtain ⟨⟨k0, k1, k2, k3⟩, l0, l1, l2, l3⟩ := R.out.four
  obtain ⟨⟨x0, x1, x2, x3⟩, z0, z1, z2, z3⟩ := X.out.four
  by_cases h0 : r = 0
  · have t0 : (r == 0) = true := beq_iff_eq.2 h0
    clear h0
    go_wp2
    exact sa_done (n := w.heap.size) (Box.set4 (R.out.away2 (m := w1.heap.size) (by omega))) (by repeat (first | with_reducible assumption | with_reducible apply Src.alloc | with_reducible apply Src.drew | (with_reducible refine Src.setCell ?_ (by simp <;> omega) _))) (by repeat (first | with_reducible assumption | with_reducible apply Chg.alloc | with_reducible apply Chg.drew | (with_reducible refine Chg.setNew ?_ (by simp <;> omega) _))) rfl
  by_cases h1 : r = 1
  · have t0 : (r == 0) = false := beq_eq_false_iff_ne.2 h0
    have t1 : (r == 1) = true := beq_iff_eq.2 h1
    clear h0 h1
    go_wp2_with fail
    refine (drawAny_any B _ hs2).mono ?_
    rintro e w3 ⟨p, q, rfl, p1, q1, hs3, hc⟩
    replace R := Lib.hid (R.out.chg hc nR)
    replace X := Lib.hid (X.out.chg hc nX)
    replace hC := hC.trans hc
    clear hc k0 k1 k2 k3 l0 l1 l2 l3 x0 x1 x2 x3 z0 z1 z2 z3 hs2
    obtain ⟨⟨k0, k1, k2, k3⟩, l0, l1, l2, l3⟩ := R.out.four
    obtain ⟨⟨x0, x1, x2, x3⟩, z0, z1, z2, z3⟩ := X.out.four
    go_wp2
    exact sa_done (n := w.heap.size) (Box.set4 (R.out.away2 (m := w1.heap.size) (by omega))) (by repeat (first | with_reducible assumption | with_reducible apply Src.alloc | with_reducible apply Src.drew | (with_reducible refine Src.setCell ?_ (by simp <;> omega) _))) (by repeat (first | with_reducible assumption | with_reducible apply Chg.alloc | with_reducible apply Chg.drew | (with_reducible refine Chg.setNew ?_ (by simp <;> omega) _))) rfl
  · have t0 : (r == 0) = false := beq_eq_false_iff_ne.2 h0
    have t1 : (r == 1) = false := beq_eq_false_iff_ne.2 h1
    clear h0 h1
    go_wp2
    exact sa_done (n := w.heap.size) (Box.set4 R.out) (by repeat (first | with_reducible assumption | with_reducible apply Src.alloc | with_reducible apply Src.drew | (with_reducible refine Src.setCell ?_ (by simp <;> omega) _))) (by repeat (first | with_reducible assumption | with_reducible apply Chg.alloc | with_reducible apply Chg.drew | (with_reducible refine Chg.setNew ?_ (by simp <;> omega) _))) rfl

theorem st_done {B n m : Nat} {w F : World} {tmps : Array Value} {a b c d p q u v : Int} (R : Box F n [.int .i64 a, .int .i64 b, .int .i64 c, .int .i64 d]) (T : Box F m [.int .i64 p, .int .i64 q, .int .i64 u, .int .i64 v]) (hs : Src F B) (hC : Chg B w F)
    (ha : tmps[2]? = some (.pointer (some ⟨n, 0, none⟩))) (hb : tmps[3]? = some (.pointer (some ⟨m, 0, none⟩))) : bodyPost Try.prog Try.f44 (ASg2 B w) Exit.ret ⟨tmps, []⟩ F := by
  obtain ⟨⟨g0, g1, g2, g3⟩, _⟩ := R.four
  obtain ⟨⟨f0, f1, f2, f3⟩, _⟩ := T.four
  exact bodyPost_ret (v := .tuple #[Sg a b c d, Sg p q u v]) (by simp [results, Try.results44, go_sem, ha, hb, g0, g1, g2, g3, f0, f1, f2, f3]) rfl ⟨a, b, c, d, p, q, u, v, rfl, hs, hC⟩

theorem Box.away4 {w : World} {n m i j k l : Nat} {vs : List Value} {a b c d : Value} (h : Box w n vs) (hm : m ≠ n) : Box ((((w.setCell ⟨m, i, none⟩ a).setCell ⟨m, j, none⟩ b).setCell ⟨m, k, none⟩ c).setCell ⟨m, l, none⟩ d) n vs := (h.away2 hm).away2 hm

set_option maxHeartbeats 2000000 in
theorem drawTwo_any (B : Nat) (w : World) (hs : Src w B) : Calls Try.prog 44 #[.pointer (some ⟨B, 0, none⟩)] w (ASg2 B w) := by
  have hB := hs.lt
  have nR : w.heap.size ≠ B := by omega
  have nT : w.heap.size + 1 ≠ B := by omega
  have R := Lib.hid ((Box.new4 (w := w) (n := w.heap.size) (x := .int .i64 0) (y := .int .i64 0) (z := .int .i64 0) (u := .int .i64 0) (t := 27) rfl).alloc (.cells #[.int .i64 0, .int .i64 0, .int .i64 0, .int .i64 0] 27))
  have T := Lib.hid (Box.new4 (w := w.alloc (.cells #[.int .i64 0, .int .i64 0, .int .i64 0, .int .i64 0] 27)) (n := w.heap.size + 1) (x := .int .i64 0) (y := .int .i64 0) (z := .int .i64 0) (u := .int .i64 0) (t := 27) (by simp))
  have hC := ((Chg.refl B w).alloc (.cells #[.int .i64 0, .int .i64 0, .int .i64 0, .int .i64 0] 27)).alloc (.cells #[.int .i64 0, .int .i64 0, .int .i64 0, .int .i64 0] 27)
  go_enter Try.func44, Try.ntmps44
  go_wp2_with fail
  refine (drawSAny_any B _ (by repeat (first | with_reducible assumption | with_reducible apply Src.alloc | with_reducible apply Src.drew | with_reducible apply Src.drewN))).mono ?_
  rintro e w1 ⟨a, b, c, d, rfl, hs1, hc⟩
  replace R := Lib.hid (R.out.chg hc nR)
  replace T := Lib.hid (T.out.chg hc nT)
  replace hC := hC.trans hc
  clear hc hs
  go_wp2_with fail
  refine (drawSAny_any B _ hs1).mono ?_
  rintro e w2 ⟨p, q, u, v, rfl, hs2, hc⟩
  have lX := (T.out.chg hc nT).lt
  replace R := Lib.hid (((R.out.chg hc nR).alloc (.cells #[.int .i64 a, .int .i64 b, .int .i64 c, .int .i64 d] 27)).alloc (.cells #[.int .i64 p, .int .i64 q, .int .i64 u, .int .i64 v] 27))
  replace T := Lib.hid (((T.out.chg hc nT).alloc (.cells #[.int .i64 a, .int .i64 b, .int .i64 c, .int .i64 d] 27)).alloc (.cells #[.int .i64 p, .int .i64 q, .int .i64 u, .int .i64 v] 27))
  replace hC := ((hC.trans hc).alloc (.cells #[.int .i64 a, .int .i64 b, .int .i64 c, .int .i64 d] 27)).alloc (.cells #[.int .i64 p, .int .i64 q, .int .i64 u, .int .i64 v] 27)
  have X := Lib.hid ((Box.new4 (w := w2) (n := w2.heap.size) (x := .int .i64 a) (y := .int .i64 b) (z := .int .i64 c) (u := .int .i64 d) (t := 27) rfl).alloc (.cells #[.int .i64 p, .int .i64 q, .int .i64 u, .int .i64 v] 27))
  have Y := Lib.hid (Box.new4 (w := w2.alloc (.cells #[.int .i64 a, .int .i64 b, .int .i64 c, .int .i64 d] 27)) (n := w2.heap.size + 1) (x := .int .i64 p) (y := .int .i64 q) (z := .int .i64 u) (u := .int .i64 v) (t := 27) (by simp))
  have gX : B < w2.heap.size := hs2.lt
  have nX : w2.heap.size ≠ B := by omega
  have nY : w2.heap.size + 1 ≠ B := by omega
  clear hc hs1
  go_wp2_with fail
  refine (next_pos B _ _ (by repeat (first | with_reducible assumption | with_reducible apply Src.alloc | with_reducible apply Src.drew | with_reducible apply Src.drewN)) (by omega)).mono ?_
  rintro e w3 ⟨r, rfl, r0, r1, hs3, hc⟩
  replace R := Lib.hid (R.out.chg hc nR)
  replace T := Lib.hid (T.out.chg hc nT)
  replace X := Lib.hid (X.out.chg hc nX)
  replace Y := Lib.hid (Y.out.chg hc nY)
  replace hC := hC.trans hc
  clear hc hs2
  obtain ⟨⟨k0, k1, k2, k3⟩, l0, l1, l2, l3⟩ := R.out.four
  obtain ⟨⟨m0, m1, m2, m3⟩, o0, o1, o2, o3⟩ := T.out.four
  obtain ⟨⟨x0, x1, x2, x3⟩, z0, z1, z2, z3⟩ := X.out.four
  obtain ⟨⟨y0, y1, y2, y3⟩, q0, q1, q2, q3⟩ := Y.out.four
  by_cases h0 : r = 0
  · have t0 : (r == 0) = true := beq_iff_eq.2 h0
    clear h0
    go_wp2_with fail
    go_region
    all_goals
      go_wp2
      exact st_done (n := w.heap.size) (m := w.heap.size + 1) (Box.away4 (Box.set4 (R.out.away2 (m := w2.heap.size + 1) (by omega))) (by omega)).drew (Box.set4 (Box.away4 (T.out.away2 (m := w2.heap.size + 1) (by omega)) (by omega))).drew (by repeat (first | with_reducible assumption | with_reducible apply Src.alloc | with_reducible apply Src.drew | (with_reducible refine Src.setCell ?_ (by simp <;> omega) _))) (by repeat (first | with_reducible assumption | with_reducible apply Chg.alloc | with_reducible apply Chg.drew | (with_reducible refine Chg.setNew ?_ (by simp <;> omega) _))) rfl rfl
  by_cases h1 : r = 1
  · have t0 : (r == 0) = false := beq_eq_false_iff_ne.2 h0
    have t1 : (r == 1) = true := beq_iff_eq.2 h1
    clear h0 h1
    go_wp2_with fail
    go_region
    all_goals
      go_wp2
      exact st_done (n := w.heap.size) (m := w.heap.size + 1) (Box.away4 (Box.set4 (R.out.away2 (m := w2.heap.size + 1) (by omega))) (by omega)).drew (Box.set4 (Box.away4 (T.out.away2 (m := w2.heap.size + 1) (by omega)) (by omega))).drew (by repeat (first | with_reducible assumption | with_reducible apply Src.alloc | with_reducible apply Src.drew | (with_reducible refine Src.setCell ?_ (by simp <;> omega) _))) (by repeat (first | with_reducible assumption | with_reducible apply Chg.alloc | with_reducible apply Chg.drew | (with_reducible refine Chg.setNew ?_ (by simp <;> omega) _))) rfl rfl
  by_cases h2 : r = 2
  · have t0 : (r == 0) = false := beq_eq_false_iff_ne.2 h0
    have t1 : (r == 1) = false := beq_eq_false_iff_ne.2 h1
    have t2 : (r == 2) = true := beq_iff_eq.2 h2
    clear h0 h1 h2
    go_wp2_with fail
    go_region
    all_goals
      go_wp2
      exact st_done (n := w.heap.size) (m := w.heap.size + 1) (Box.away4 (Box.set4 (Box.away4 (m := w2.heap.size + 1) R.out (by omega))) (by omega)).drew (Box.set4 (Box.away4 (Box.away4 (m := w2.heap.size + 1) T.out (by omega)) (by omega))).drew (by repeat (first | with_reducible assumption | with_reducible apply Src.alloc | with_reducible apply Src.drew | (with_reducible refine Src.setCell ?_ (by simp <;> omega) _))) (by repeat (first | with_reducible assumption | with_reducible apply Chg.alloc | with_reducible apply Chg.drew | (with_reducible refine Chg.setNew ?_ (by simp <;> omega) _))) rfl rfl
  · have t0 : (r == 0) = false := beq_eq_false_iff_ne.2 h0
    have t1 : (r == 1) = false := beq_eq_false_iff_ne.2 h1
    have t2 : (r == 2) = false := beq_eq_false_iff_ne.2 h2
    clear h0 h1 h2
    go_wp2_with fail
    go_region
    all_goals
      go_wp2
      exact st_done (n := w.heap.size) (m := w.heap.size + 1) (Box.away4 (Box.set4 R.out) (by omega)).drew (Box.set4 (Box.away4 T.out (by omega))).drew (by repeat (first | with_reducible assumption | with_reducible apply Src.alloc | with_reducible apply Src.drew | (with_reducible refine Src.setCell ?_ (by simp <;> omega) _))) (by repeat (first | with_reducible assumption | with_reducible apply Chg.alloc | with_reducible apply Chg.drew | (with_reducible refine Chg.setNew ?_ (by simp <;> omega) _))) rfl rfl

/-- Two segments come out. -/
def TwoSgs (w : World) (e : Ending) (w' : World) : Prop := ∃ a b c d p q u v : Int, e = .returned (.tuple #[Sg a b c d, Sg p q u v]) ∧ Ext w w'
theorem sc_done {n m : Nat} {w F : World} {tmps : Array Value} {a b c d p q u v : Int} (R : Box F n [.int .i64 a, .int .i64 b, .int .i64 c, .int .i64 d]) (T : Box F m [.int .i64 p, .int .i64 q, .int .i64 u, .int .i64 v]) (hC : Ext w F)
    (ha : tmps[2]? = some (.pointer (some ⟨n, 0, none⟩))) (hb : tmps[3]? = some (.pointer (some ⟨m, 0, none⟩))) : bodyPost Try.prog Try.f16 (TwoSgs w) Exit.ret ⟨tmps, []⟩ F := by
  obtain ⟨⟨g0, g1, g2, g3⟩, _⟩ := R.four
  obtain ⟨⟨f0, f1, f2, f3⟩, _⟩ := T.four
  exact bodyPost_ret (v := .tuple #[Sg a b c d, Sg p q u v]) (by simp [results, Try.results16, go_sem, ha, hb, g0, g1, g2, g3, f0, f1, f2, f3]) rfl ⟨a, b, c, d, p, q, u, v, rfl, hC⟩
set_option maxHeartbeats 1000000 in
theorem drawSegmentsCross_any (a : Option Addr) (len cap : Nat) (w : World) (hb : Bytes w a len) (hl : len ≤ 100000) : Calls Try.prog 16 #[.slice a len cap] w (TwoSgs w) := by
  have HB := Lib.hid hb
  clear hb
  have R := Lib.hid ((Box.new4 (w := w) (n := w.heap.size) (x := .int .i64 0) (y := .int .i64 0) (z := .int .i64 0) (u := .int .i64 0) (t := 27) rfl).alloc (.cells #[.int .i64 0, .int .i64 0, .int .i64 0, .int .i64 0] 27))
  have T := Lib.hid (Box.new4 (w := w.alloc (.cells #[.int .i64 0, .int .i64 0, .int .i64 0, .int .i64 0] 27)) (n := w.heap.size + 1) (x := .int .i64 0) (y := .int .i64 0) (z := .int .i64 0) (u := .int .i64 0) (t := 27) (by simp))
  have hx := ((Ext.refl w).alloc (.cells #[.int .i64 0, .int .i64 0, .int .i64 0, .int .i64 0] 27)).alloc (.cells #[.int .i64 0, .int .i64 0, .int .i64 0, .int .i64 0] 27)
  go_enter Try.func16, Try.ntmps16
  go_wp2_with fail
  refine (from_any a len cap _ (HB.out.ext hx) hl).mono ?_
  rintro e w1 ⟨B, rfl, hB, hs, hy⟩
  simp at hB
  replace R := Lib.hid (R.out.ext hy)
  replace T := Lib.hid (T.out.ext hy)
  replace hx := hx.trans hy
  clear hy
  go_wp2_with fail
  refine (drawTwo_any B _ hs).mono ?_
  rintro e w2 ⟨x, y, z, t, p, q, u, v, rfl, hs2, hc⟩
  replace R := Lib.hid (R.out.chg hc (by omega))
  replace T := Lib.hid (T.out.chg hc (by omega))
  replace hx := hc.ext hx (by omega)
  clear hc hs
  obtain ⟨⟨k0, k1, k2, k3⟩, l0, l1, l2, l3⟩ := R.out.four
  obtain ⟨⟨m0, m1, m2, m3⟩, o0, o1, o2, o3⟩ := T.out.four
  go_wp2
  exact sc_done (n := w.heap.size) (m := w.heap.size + 1) (Box.away4 (Box.set4 R.out) (by omega)) (Box.set4 (Box.away4 T.out (by omega))) (by repeat (first | with_reducible assumption | with_reducible apply Ext.alloc | with_reducible apply Ext.drew | (with_reducible refine Ext.setNew ?_ (by simp <;> omega) _))) rfl rfl

end Go.Proofs.Ytcdbnbfhohidnaa.Draw
