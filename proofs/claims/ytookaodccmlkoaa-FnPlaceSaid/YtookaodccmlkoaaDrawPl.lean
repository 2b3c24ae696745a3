/- The contract of DrawPointAt: a segment and a ratio come out, and nothing that was there is written. -/
import Derived.Test.YtookaodccmlkoaaDrawS
namespace Go.Proofs.Ytookaodccmlkoaa.Draw
open Go.ChangeShapes Go.WideShapes Go.ChangeAt Go.RowKit
open Go.Proofs.Ytookaodccmlkoaa.Num Go.Proofs.Ytookaodccmlkoaa.Kit Go.Proofs.Ytookaodccmlkoaa.Pts Go.Proofs.Ytookaodccmlkoaa.Seg
set_option linter.unusedVariables false
set_option linter.unusedSimpArgs false

def SgRt (w : World) (e : Ending) (w' : World) : Prop := ∃ a b c d p q : Int, e = .returned (.tuple #[Sg a b c d, Pt p q]) ∧ Ext w w'
theorem pl_done {n m : Nat} {w F : World} {tmps : Array Value} {a b c d p q : Int} (R : Box F n [.int .i64 a, .int .i64 b, .int .i64 c, .int .i64 d]) (T : Box F m [.int .i64 p, .int .i64 q]) (hC : Ext w F)
    (ha : tmps[2]? = some (.pointer (some ⟨n, 0, none⟩))) (hb : tmps[3]? = some (.pointer (some ⟨m, 0, none⟩))) : bodyPost Try.prog Try.f26 (SgRt w) Exit.ret ⟨tmps, []⟩ F := by
  obtain ⟨⟨g0, g1, g2, g3⟩, _⟩ := R.four
  obtain ⟨⟨f0, f1⟩, _⟩ := T.two
  exact bodyPost_ret (v := .tuple #[Sg a b c d, Pt p q]) (by simp [results, Try.results26, go_sem, ha, hb, g0, g1, g2, g3, f0, f1]) rfl ⟨a, b, c, d, p, q, rfl, hC⟩

set_option maxHeartbeats 2000000 in
theorem drawPointAt_any (a : Option Addr) (len cap : Nat) (w : World) (hb : Bytes w a len) (hl : len ≤ 100000) : Calls Try.prog 26 #[.slice a len cap] w (SgRt w) := by
  have HB := Lib.hid hb
  clear hb
  have R := Lib.hid ((Box.new4 (w := w) (n := w.heap.size) (x := .int .i64 0) (y := .int .i64 0) (z := .int .i64 0) (u := .int .i64 0) (t := 59) rfl).alloc (.cells #[.int .i64 0, .int .i64 0] 37))
  have T := Lib.hid (Box.new2 (w := w.alloc (.cells #[.int .i64 0, .int .i64 0, .int .i64 0, .int .i64 0] 59)) (n := w.heap.size + 1) (x := .int .i64 0) (y := .int .i64 0) (t := 37) (by simp))
  have hx := ((Ext.refl w).alloc (.cells #[.int .i64 0, .int .i64 0, .int .i64 0, .int .i64 0] 59)).alloc (.cells #[.int .i64 0, .int .i64 0] 37)
  go_enter Try.func26, Try.ntmps26
  go_wp2_with fail
  refine (from_any a len cap _ (HB.out.ext hx) hl).mono ?_
  rintro e w1 ⟨B, rfl, hB, hs, hy⟩
  simp at hB
  have nR : w.heap.size ≠ B := by omega
  have nT : w.heap.size + 1 ≠ B := by omega
  have hB0 : w.heap.size ≤ B := by omega
  replace R := Lib.hid (R.out.ext hy)
  replace T := Lib.hid (T.out.ext hy)
  replace hx := hx.trans hy
  clear hy
  go_wp2_with fail
  refine (drawSAny_any B _ hs).mono ?_
  rintro e w2 ⟨x, y, z, t, rfl, hs2, hc⟩
  have lT := (T.out.chg hc nT).lt
  have gX : B < w2.heap.size := hs2.lt
  have nX : w2.heap.size ≠ B := by omega
  have X := Lib.hid (Box.new4 (w := w2) (n := w2.heap.size) (x := .int .i64 x) (y := .int .i64 y) (z := .int .i64 z) (u := .int .i64 t) (t := 59) rfl)
  replace R := Lib.hid ((R.out.chg hc nR).alloc (.cells #[.int .i64 x, .int .i64 y, .int .i64 z, .int .i64 t] 59))
  replace T := Lib.hid ((T.out.chg hc nT).alloc (.cells #[.int .i64 x, .int .i64 y, .int .i64 z, .int .i64 t] 59))
  replace hx := (hc.ext hx hB0).alloc (.cells #[.int .i64 x, .int .i64 y, .int .i64 z, .int .i64 t] 59)
  clear hc hs
  go_wp2_with fail
  refine (next_pos B _ _ (by repeat (first | with_reducible assumption | with_reducible apply Src.alloc | with_reducible apply Src.drew | with_reducible apply Src.drewN)) (by omega)).mono ?_
  rintro e w3 ⟨r1, rfl, r10, r11, hs3, hc⟩
  replace R := Lib.hid (R.out.chg hc nR)
  replace T := Lib.hid (T.out.chg hc nT)
  replace X := Lib.hid (X.out.chg hc nX)
  replace hx := hc.ext hx hB0
  clear hc hs2
  have W1 : IntKind.i64.wrap (1 + r1) = 1 + r1 := IntWalk.i64_in _ (by omega)
  have W2 : IntKind.i64.wrap (1 + r1 + 1) = 1 + r1 + 1 := IntWalk.i64_in _ (by omega)
  go_wp2_with fail
  refine (next_pos B _ _ hs3 (by omega)).mono ?_
  rintro e w4 ⟨r2, rfl, r20, r21, hs4, hc⟩
  have lX := (X.out.chg hc nX).lt
  have gY : B < w4.heap.size := hs4.lt
  have nY : w4.heap.size ≠ B := by omega
  have Y := Lib.hid (Box.new2 (w := w4) (n := w4.heap.size) (x := .int .i64 r2) (y := .int .i64 (1 + r1)) (t := 37) rfl)
  replace R := Lib.hid ((R.out.chg hc nR).alloc (.cells #[.int .i64 r2, .int .i64 (1 + r1)] 37))
  replace T := Lib.hid ((T.out.chg hc nT).alloc (.cells #[.int .i64 r2, .int .i64 (1 + r1)] 37))
  replace X := Lib.hid ((X.out.chg hc nX).alloc (.cells #[.int .i64 r2, .int .i64 (1 + r1)] 37))
  replace hx := (hc.ext hx hB0).alloc (.cells #[.int .i64 r2, .int .i64 (1 + r1)] 37)
  clear hc hs3
  go_wp2_with fail
  refine (next_pos B _ _ (by repeat (first | with_reducible assumption | with_reducible apply Src.alloc | with_reducible apply Src.drew | with_reducible apply Src.drewN)) (by omega)).mono ?_
  rintro e w5 ⟨r3, rfl, r30, r31, hs5, hc⟩
  replace R := Lib.hid (R.out.chg hc nR)
  replace T := Lib.hid (T.out.chg hc nT)
  replace X := Lib.hid (X.out.chg hc nX)
  replace Y := Lib.hid (Y.out.chg hc nY)
  replace hx := hc.ext hx hB0
  clear hc hs4
  have hlt : w.heap.size < w2.heap.size ∧ w.heap.size + 1 < w2.heap.size ∧ w2.heap.size < w4.heap.size := by omega
  by_cases h0 : r3 = 0
  · have t0 : (r3 == 0) = true := beq_iff_eq.2 h0
    clear h0
    go_wp2_with fail
    refine (next_pos B _ _ (hs5.alloc _) (by omega)).mono ?_
    rintro e w6 ⟨r4, rfl, r40, r41, hs6, hc⟩
    obtain ⟨v, hv, hor⟩ := pick4 hc hs5 r40 r41
    replace R := Lib.hid ((R.out.alloc _).chg hc nR)
    replace T := Lib.hid ((T.out.alloc _).chg hc nT)
    replace X := Lib.hid ((X.out.alloc _).chg hc nX)
    replace Y := Lib.hid ((Y.out.alloc _).chg hc nY)
    replace hx := hc.ext (hx.alloc _) hB0
    clear hc hs5 hor
    obtain ⟨⟨k0, k1, k2, k3⟩, l0, l1, l2, l3⟩ := R.out.four
    obtain ⟨⟨m0, m1⟩, o0, o1⟩ := T.out.two
    obtain ⟨⟨x0, x1, x2, x3⟩, z0, z1, z2, z3⟩ := X.out.four
    obtain ⟨⟨y0, y1⟩, q0, q1⟩ := Y.out.two
    go_wp2_with fail
    go_region
    all_goals
      go_wp2
      exact pl_done (n := w.heap.size) (m := w.heap.size + 1) (Box.away2 (Box.set4 (R.out.away (p := ⟨w4.heap.size, 1, none⟩) (by simp; omega) _)) (by omega)).drew (Box.set2 (Box.away4 (T.out.away (p := ⟨w4.heap.size, 1, none⟩) (by simp; omega) _) (by omega))).drew (by repeat (first | with_reducible assumption | with_reducible apply Ext.alloc | with_reducible apply Ext.drew | (with_reducible refine Ext.setNew ?_ (by simp <;> omega) _))) rfl rfl
  by_cases h1 : r3 = 1
  · have t0 : (r3 == 0) = false := beq_eq_false_iff_ne.2 h0
    have t1 : (r3 == 1) = true := beq_iff_eq.2 h1
    clear h0 h1
    go_wp2_with fail
    refine (next_pos B _ _ (hs5.alloc _) (by omega)).mono ?_
    rintro e w6 ⟨r4, rfl, r40, r41, hs6, hc⟩
    obtain ⟨v, hv, hor⟩ := pick3 hc hs5 r40 r41
    replace R := Lib.hid ((R.out.alloc _).chg hc nR)
    replace T := Lib.hid ((T.out.alloc _).chg hc nT)
    replace X := Lib.hid ((X.out.alloc _).chg hc nX)
    replace Y := Lib.hid ((Y.out.alloc _).chg hc nY)
    replace hx := hc.ext (hx.alloc _) hB0
    clear hc hs5 hor
    obtain ⟨⟨k0, k1, k2, k3⟩, l0, l1, l2, l3⟩ := R.out.four
    obtain ⟨⟨m0, m1⟩, o0, o1⟩ := T.out.two
    obtain ⟨⟨x0, x1, x2, x3⟩, z0, z1, z2, z3⟩ := X.out.four
    obtain ⟨⟨y0, y1⟩, q0, q1⟩ := Y.out.two
    go_wp2_with fail
    go_region
    all_goals
      go_wp2
      exact pl_done (n := w.heap.size) (m := w.heap.size + 1) (Box.away2 (Box.set4 (R.out.away (p := ⟨w4.heap.size, 0, none⟩) (by simp; omega) _)) (by omega)).drew (Box.set2 (Box.away4 (T.out.away (p := ⟨w4.heap.size, 0, none⟩) (by simp; omega) _) (by omega))).drew (by repeat (first | with_reducible assumption | with_reducible apply Ext.alloc | with_reducible apply Ext.drew | (with_reducible refine Ext.setNew ?_ (by simp <;> omega) _))) rfl rfl
  · have t0 : (r3 == 0) = false := beq_eq_false_iff_ne.2 h0
    have t1 : (r3 == 1) = false := beq_eq_false_iff_ne.2 h1
    clear h0 h1
    obtain ⟨⟨k0, k1, k2, k3⟩, l0, l1, l2, l3⟩ := R.out.four
    obtain ⟨⟨m0, m1⟩, o0, o1⟩ := T.out.two
    obtain ⟨⟨x0, x1, x2, x3⟩, z0, z1, z2, z3⟩ := X.out.four
    obtain ⟨⟨y0, y1⟩, q0, q1⟩ := Y.out.two
    go_wp2_with fail
    go_region
    all_goals
      go_wp2
      exact pl_done (n := w.heap.size) (m := w.heap.size + 1) (Box.away2 (Box.set4 R.out) (by omega)).drew (Box.set2 (Box.away4 T.out (by omega))).drew (by repeat (first | with_reducible assumption | with_reducible apply Ext.alloc | with_reducible apply Ext.drew | (with_reducible refine Ext.setNew ?_ (by simp <;> omega) _))) rfl rfl

end Go.Proofs.Ytookaodccmlkoaa.Draw
