import Derived.Test.YtpdnefodbichkaaMDraw2
import Derived.Test.YtpdnefodbichkaaCel
import Derived.Test.YtpdnefodbichkaaSeg
import Derived.BigRegion
namespace Go.Proofs.Ytpdnefodbichkaa.Draw
open Go.ChangeShapes Go.WideShapes Go.ChangeAt Go.RowKit
open Go.Proofs.Ytpdnefodbichkaa.Num Go.Proofs.Ytpdnefodbichkaa.Kit Go.Proofs.Ytpdnefodbichkaa.Pts Go.Proofs.Ytpdnefodbichkaa.Seg
set_option linter.unusedVariables false
set_option linter.unusedSimpArgs false
def ASg (B : Nat) (w : World) (e : Ending) (w' : World) : Prop := ∃ a b c d : Int, e = .returned (Sg a b c d) ∧ Src w' B ∧ Chg B w w'
theorem sd_done {B n : Nat} {w F : World} {tmps : Array Value} {a b c d : Int} (R : Box F n [.int .i64 a, .int .i64 b, .int .i64 c, .int .i64 d]) (hs : Src F B) (hC : Chg B w F) (ha : tmps[2]? = some (.pointer (some ⟨n, 0, none⟩))) :
    bodyPost Try.prog Try.f48 (ASg B w) Exit.ret ⟨tmps, []⟩ F := by
  obtain ⟨⟨g0, g1, g2, g3⟩, _⟩ := R.four
  exact bodyPost_ret (v := Sg a b c d) (by simp [results, Try.results48, go_sem, ha, g0, g1, g2, g3]) rfl ⟨a, b, c, d, rfl, hs, hC⟩
theorem sa_done {B n : Nat} {w F : World} {tmps : Array Value} {a b c d : Int} (R : Box F n [.int .i64 a, .int .i64 b, .int .i64 c, .int .i64 d]) (hs : Src F B) (hC : Chg B w F) (ha : tmps[2]? = some (.pointer (some ⟨n, 0, none⟩))) :
    bodyPost Try.prog Try.f24 (ASg B w) Exit.ret ⟨tmps, []⟩ F := by
  obtain ⟨⟨g0, g1, g2, g3⟩, _⟩ := R.four
  exact bodyPost_ret (v := Sg a b c d) (by simp [results, Try.results24, go_sem, ha, g0, g1, g2, g3]) rfl ⟨a, b, c, d, rfl, hs, hC⟩
set_option maxHeartbeats 1000000 in
theorem drawS_any (B : Nat) (w : World) (hs : Src w B) : Calls Try.prog 48 #[.pointer (some ⟨B, 0, none⟩)] w (ASg B w) := by
  have hB := hs.lt
  have nR : w.heap.size ≠ B := by omega
  have R := Lib.hid (Box.new4 (w := w) (n := w.heap.size) (x := .int .i64 0) (y := .int .i64 0) (z := .int .i64 0) (u := .int .i64 0) (t := 27) rfl)
  have hC := (Chg.refl B w).alloc (.cells #[.int .i64 0, .int .i64 0, .int .i64 0, .int .i64 0] 27)
  go_enter Try.func48, Try.ntmps48
  go_wp2_with fail
  refine (drawPoint_any B _ (by repeat (first | with_reducible assumption | with_reducible apply Src.alloc | with_reducible apply Src.drew | with_reducible apply Src.drewN))).mono ?_
  rintro e w1 ⟨x, y, rfl, x1, y1, hs1, hc⟩
  replace R := Lib.hid (R.out.chg hc nR)
  replace hC := hC.trans hc
  clear hc hs
  go_wp2_with fail
  refine (drawPoint_any B _ hs1).mono ?_
  rintro e w2 ⟨u, v, rfl, u1, v1, hs2, hc⟩
  replace R := Lib.hid (R.out.chg hc nR)
  replace hC := hC.trans hc
  clear hc hs1
  obtain ⟨⟨k0, k1, k2, k3⟩, l0, l1, l2, l3⟩ := R.out.four
  have lR := R.out.lt
  have lB := hs2.lt
  by_cases h1 : x = u
  · have t1 : (x == u) = true := beq_iff_eq.2 h1
    by_cases h2 : y = v
    · have t2 : (y == v) = true := beq_iff_eq.2 h2
      clear h1 h2
      by_cases h3 : y < 0
      · go_wp2
        exact sd_done (n := w.heap.size) ((Box.set4 R.out).alloc _ |>.alloc _) (by repeat (first | with_reducible assumption | with_reducible apply Src.alloc | with_reducible apply Src.drew | (with_reducible refine Src.setCell ?_ (by simp <;> omega) _))) (by repeat (first | with_reducible assumption | with_reducible apply Chg.alloc | with_reducible apply Chg.drew | (with_reducible refine Chg.setNew ?_ (by simp <;> omega) _))) rfl
      · go_wp2
        exact sd_done (n := w.heap.size) ((Box.set4 R.out).alloc _ |>.alloc _) (by repeat (first | with_reducible assumption | with_reducible apply Src.alloc | with_reducible apply Src.drew | (with_reducible refine Src.setCell ?_ (by simp <;> omega) _))) (by repeat (first | with_reducible assumption | with_reducible apply Chg.alloc | with_reducible apply Chg.drew | (with_reducible refine Chg.setNew ?_ (by simp <;> omega) _))) rfl
    · have t2 : (y == v) = false := beq_eq_false_iff_ne.2 h2
      clear h1 h2
      go_wp2
      exact sd_done (n := w.heap.size) ((Box.set4 R.out).alloc _ |>.alloc _) (by repeat (first | with_reducible assumption | with_reducible apply Src.alloc | with_reducible apply Src.drew | (with_reducible refine Src.setCell ?_ (by simp <;> omega) _))) (by repeat (first | with_reducible assumption | with_reducible apply Chg.alloc | with_reducible apply Chg.drew | (with_reducible refine Chg.setNew ?_ (by simp <;> omega) _))) rfl
  · have t1 : (x == u) = false := beq_eq_false_iff_ne.2 h1
    clear h1
    go_wp2
    exact sd_done (n := w.heap.size) ((Box.set4 R.out).alloc _ |>.alloc _) (by repeat (first | with_reducible assumption | with_reducible apply Src.alloc | with_reducible apply Src.drew | (with_reducible refine Src.setCell ?_ (by simp <;> omega) _))) (by repeat (first | with_reducible assumption | with_reducible apply Chg.alloc | with_reducible apply Chg.drew | (with_reducible refine Chg.setNew ?_ (by simp <;> omega) _))) rfl
set_option maxHeartbeats 1000000 in
theorem drawSAny_any (B : Nat) (w : World) (hs : Src w B) : Calls Try.prog 24 #[.pointer (some ⟨B, 0, none⟩)] w (ASg B w) := by
  have hB := hs.lt
  have nR : w.heap.size ≠ B := by omega
  have R := Lib.hid (Box.new4 (w := w) (n := w.heap.size) (x := .int .i64 0) (y := .int .i64 0) (z := .int .i64 0) (u := .int .i64 0) (t := 27) rfl)
  have hC := (Chg.refl B w).alloc (.cells #[.int .i64 0, .int .i64 0, .int .i64 0, .int .i64 0] 27)
  go_enter Try.func24, Try.ntmps24
  go_wp2_with fail
  refine (drawS_any B _ (by repeat (first | with_reducible assumption | with_reducible apply Src.alloc | with_reducible apply Src.drew | with_reducible apply Src.drewN))).mono ?_
  rintro e w1 ⟨a, b, c, d, rfl, hs1, hc⟩
  have lX := (R.out.chg hc nR).lt
  replace R := Lib.hid ((R.out.chg hc nR).alloc (.cells #[.int .i64 a, .int .i64 b, .int .i64 c, .int .i64 d] 27))
  replace hC := (hC.trans hc).alloc (.cells #[.int .i64 a, .int .i64 b, .int .i64 c, .int .i64 d] 27)
  have X := Lib.hid (Box.new4 (w := w1) (n := w1.heap.size) (x := .int .i64 a) (y := .int .i64 b) (z := .int .i64 c) (u := .int .i64 d) (t := 27) rfl)
  have nX : w1.heap.size ≠ B := Nat.ne_of_gt hs1.lt
  have gX : B < w1.heap.size := hs1.lt
  clear hc hs
  go_wp2_with fail
  refine (next_pos B _ _ (by repeat (first | with_reducible assumption | with_reducible apply Src.alloc | with_reducible apply Src.drew | with_reducible apply Src.drewN)) (by omega)).mono ?_
  rintro e w2 ⟨r, rfl, r0, r1, hs2, hc⟩
  replace R := Lib.hid (R.out.chg hc nR)
  replace X := Lib.hid (X.out.chg hc nX)
  replace hC := hC.trans hc
  clear hc
  clear hs1
  obtain ⟨⟨k0, k1, k2, k3⟩, l0, l1, l2, l3⟩ := R.out.four
  obtain ⟨⟨x0, x1, x2, x3⟩, z0, z1, z2, z3⟩ := X.out.four
  by_cases h0 : r = 0
  · have t0 : (r == 0) = true := beq_iff_eq.2 h0
    clear h0
    go_wp2
    exact sa_done (n := w.heap.size) (Box.set4 (R.out.away2 (m := w1.heap.size) (by omega))) (by repeat (first | with_reducible assumption | with_reducible apply Src.alloc | with_reducible apply Src.drew | (with_reducible refine Src.setCell ?_ (by simp <;> omega) _))) (by repeat (first | with_reducible assumption | with_reducible apply Chg.alloc | with_reducible apply Chg.drew | (with_reducible refine Chg.setNew ?_ (by simp <;> omega) _))) rfl
  by_cases h1 : r = 1
  · have t0 : (r == 0) = false := beq_eq_false_iff_ne.2 h0
    have t1 : (r == 1) = true := beq_iff_eq.2 h1
    clear h0 h1
    go_wp2_with fail
    refine (drawAny_any B _ hs2).mono ?_
    rintro e w3 ⟨p, q, rfl, p1, q1, hs3, hc⟩
    replace R := Lib.hid (R.out.chg hc nR)
    replace X := Lib.hid (X.out.chg hc nX)
    replace hC := hC.trans hc
    clear hc k0 k1 k2 k3 l0 l1 l2 l3 x0 x1 x2 x3 z0 z1 z2 z3 hs2
    obtain ⟨⟨k0, k1, k2, k3⟩, l0, l1, l2, l3⟩ := R.out.four
    obtain ⟨⟨x0, x1, x2, x3⟩, z0, z1, z2, z3⟩ := X.out.four
    go_wp2
    exact sa_done (n := w.heap.size) (Box.set4 (R.out.away2 (m := w1.heap.size) (by omega))) (by repeat (first | with_reducible assumption | with_reducible apply Src.alloc | with_reducible apply Src.drew | (with_reducible refine Src.setCell ?_ (by simp <;> omega) _))) (by repeat (first | with_reducible assumption | with_reducible apply Chg.alloc | with_reducible apply Chg.drew | (with_reducible refine Chg.setNew ?_ (by simp <;> omega) _))) rfl
  · have t0 : (r == 0) = false := beq_eq_false_iff_ne.2 h0
    have t1 : (r == 1) = false := beq_eq_false_iff_ne.2 h1
    clear h0 h1
    go_wp2
    exact sa_done (n := w.heap.size) (Box.set4 R.out) (by repeat (first | with_reducible assumption | with_reducible apply Src.alloc | with_reducible apply Src.drew | (with_reducible refine Src.setCell ?_ (by simp <;> omega) _))) (by repeat (first | with_reducible assumption | with_reducible apply Chg.alloc | with_reducible apply Chg.drew | (with_reducible refine Chg.setNew ?_ (by simp <;> omega) _))) rfl
theorem Box.away4 {w : World} {n m i j k l : Nat} {vs : List Value} {a b c d : Value} (h : Box w n vs) (hm : m ≠ n) : Box ((((w.setCell ⟨m, i, none⟩ a).setCell ⟨m, j, none⟩ b).setCell ⟨m, k, none⟩ c).setCell ⟨m, l, none⟩ d) n vs := (h.away2 hm).away2 hm
end Go.Proofs.Ytpdnefodbichkaa.Draw
