import Derived.Test.YtpdnefodbichkaaDrawS
namespace Go.Proofs.Ytpdnefodbichkaa.Draw
open Go.ChangeShapes Go.WideShapes Go.ChangeAt Go.RowKit
open Go.Proofs.Ytpdnefodbichkaa.Num Go.Proofs.Ytpdnefodbichkaa.Kit Go.Proofs.Ytpdnefodbichkaa.Pts Go.Proofs.Ytpdnefodbichkaa.Seg
set_option linter.unusedVariables false
set_option linter.unusedSimpArgs false
def SgPtNum (w : World) (e : Ending) (w' : World) : Prop := ∃ a b c d p q r : Int, e = .returned (.tuple #[Sg a b c d, Pt p q, .int .i64 r]) ∧ Ext w w'
theorem sw_done {n m : Nat} {w F : World} {tmps : Array Value} {a b c d p q r : Int} (R : Box F n [.int .i64 a, .int .i64 b, .int .i64 c, .int .i64 d]) (T : Box F m [.int .i64 p, .int .i64 q]) (hC : Ext w F)
    (ha : tmps[2]? = some (.pointer (some ⟨n, 0, none⟩))) (hb : tmps[3]? = some (.pointer (some ⟨m, 0, none⟩))) (hr : tmps[4]? = some (.int .i64 r)) : bodyPost Try.prog Try.f8 (SgPtNum w) Exit.ret ⟨tmps, []⟩ F := by
  obtain ⟨⟨g0, g1, g2, g3⟩, _⟩ := R.four
  obtain ⟨⟨f0, f1⟩, _⟩ := T.two
  exact bodyPost_ret (v := .tuple #[Sg a b c d, Pt p q, .int .i64 r]) (by simp [results, Try.results8, go_sem, ha, hb, hr, g0, g1, g2, g3, f0, f1]) rfl ⟨a, b, c, d, p, q, r, rfl, hC⟩
set_option maxHeartbeats 1000000 in
theorem drawWithinDistance_any (a : Option Addr) (len cap : Nat) (w : World) (hb : Bytes w a len) (hl : len ≤ 100000) : Calls Try.prog 8 #[.slice a len cap] w (SgPtNum w) := by
  have HB := Lib.hid hb
  clear hb
  have R := Lib.hid ((Box.new4 (w := w) (n := w.heap.size) (x := .int .i64 0) (y := .int .i64 0) (z := .int .i64 0) (u := .int .i64 0) (t := 27) rfl).alloc (.cells #[.int .i64 0, .int .i64 0] 25))
  have T := Lib.hid (Box.new2 (w := w.alloc (.cells #[.int .i64 0, .int .i64 0, .int .i64 0, .int .i64 0] 27)) (n := w.heap.size + 1) (x := .int .i64 0) (y := .int .i64 0) (t := 25) (by simp))
  have hx := ((Ext.refl w).alloc (.cells #[.int .i64 0, .int .i64 0, .int .i64 0, .int .i64 0] 27)).alloc (.cells #[.int .i64 0, .int .i64 0] 25)
  go_enter Try.func8, Try.ntmps8
  go_wp2_with fail
  refine (from_any a len cap _ (HB.out.ext hx) hl).mono ?_
  rintro e w1 ⟨B, rfl, hB, hs, hy⟩
  simp at hB
  have nR : w.heap.size ≠ B := by omega
  have nT : w.heap.size + 1 ≠ B := by omega
  have hB0 : w.heap.size ≤ B := by omega
  replace R := Lib.hid (R.out.ext hy)
  replace T := Lib.hid (T.out.ext hy)
  replace hx := hx.trans hy
  clear hy
  go_wp2_with fail
  refine (next_pos B _ _ hs (by omega)).mono ?_
  rintro e v1 ⟨r1, rfl, r10, r11, hs1, hc⟩
  replace R := Lib.hid (R.out.chg hc nR)
  replace T := Lib.hid (T.out.chg hc nT)
  replace hx := hc.ext hx hB0
  clear hc hs
  have hs := hs1
  clear hs1
  go_wp2_with fail
  refine (next_pos B _ _ hs (by omega)).mono ?_
  rintro e v2 ⟨r2, rfl, r20, r21, hs2, hc⟩
  replace R := Lib.hid (R.out.chg hc nR)
  replace T := Lib.hid (T.out.chg hc nT)
  replace hx := hc.ext hx hB0
  clear hc hs
  have hs := hs2
  clear hs2
  by_cases h0 : r2 = 0
  · have t0 : (r2 == 0) = true := beq_iff_eq.2 h0
    clear h0
    go_wp2_with fail
    refine (next_pos B _ _ (hs.alloc _) (by omega)).mono ?_
    rintro e v3 ⟨r3, rfl, r30, r31, hs3, hc⟩
    obtain ⟨z, hz, hor⟩ := pick4 hc hs r30 r31
    replace R := Lib.hid ((R.out.alloc _).chg hc nR)
    replace T := Lib.hid ((T.out.alloc _).chg hc nT)
    replace hx := hc.ext (hx.alloc _) hB0
    clear hc hs
    have hs := hs3
    clear hs3
    clear hor
    go_wp2_with fail
    refine (drawSAny_any B _ hs).mono ?_
    rintro e v8 ⟨x, y, z8, t, rfl, hs8, hc⟩
    replace R := Lib.hid (R.out.chg hc nR)
    replace T := Lib.hid (T.out.chg hc nT)
    replace hx := hc.ext hx hB0
    clear hc hs
    go_wp2_with fail
    refine (drawAny_any B _ hs8).mono ?_
    rintro e v9 ⟨p, q, rfl, p1, q1, hs9, hc⟩
    replace R := Lib.hid (R.out.chg hc nR)
    replace T := Lib.hid (T.out.chg hc nT)
    replace hx := hc.ext hx hB0
    clear hc hs8
    obtain ⟨⟨k0, k1, k2, k3⟩, l0, l1, l2, l3⟩ := R.out.four
    obtain ⟨⟨m0, m1⟩, o0, o1⟩ := T.out.two
    go_wp2
    exact sw_done (n := w.heap.size) (m := w.heap.size + 1) (Box.away2 (Box.set4 R.out) (by omega)) (Box.set2 (Box.away4 T.out (by omega))) (by repeat (first | with_reducible assumption | with_reducible apply Ext.alloc | with_reducible apply Ext.drew | (with_reducible refine Ext.setNew ?_ (by simp <;> omega) _))) rfl rfl rfl
  by_cases h1 : r2 = 1
  · have t0 : (r2 == 0) = false := beq_eq_false_iff_ne.2 h0
    have t1 : (r2 == 1) = true := beq_iff_eq.2 h1
    clear h0 h1
    go_wp2_with fail
    refine (next_pos B _ _ hs (by omega)).mono ?_
    rintro e v3 ⟨r3, rfl, r30, r31, hs3, hc⟩
    replace R := Lib.hid (R.out.chg hc nR)
    replace T := Lib.hid (T.out.chg hc nT)
    replace hx := hc.ext hx hB0
    clear hc hs
    have hs := hs3
    clear hs3
    go_wp2_with fail
    refine (drawSAny_any B _ hs).mono ?_
    rintro e v8 ⟨x, y, z8, t, rfl, hs8, hc⟩
    replace R := Lib.hid (R.out.chg hc nR)
    replace T := Lib.hid (T.out.chg hc nT)
    replace hx := hc.ext hx hB0
    clear hc hs
    go_wp2_with fail
    refine (drawAny_any B _ hs8).mono ?_
    rintro e v9 ⟨p, q, rfl, p1, q1, hs9, hc⟩
    replace R := Lib.hid (R.out.chg hc nR)
    replace T := Lib.hid (T.out.chg hc nT)
    replace hx := hc.ext hx hB0
    clear hc hs8
    obtain ⟨⟨k0, k1, k2, k3⟩, l0, l1, l2, l3⟩ := R.out.four
    obtain ⟨⟨m0, m1⟩, o0, o1⟩ := T.out.two
    go_wp2
    exact sw_done (n := w.heap.size) (m := w.heap.size + 1) (Box.away2 (Box.set4 R.out) (by omega)) (Box.set2 (Box.away4 T.out (by omega))) (by repeat (first | with_reducible assumption | with_reducible apply Ext.alloc | with_reducible apply Ext.drew | (with_reducible refine Ext.setNew ?_ (by simp <;> omega) _))) rfl rfl rfl
  · have t0 : (r2 == 0) = false := beq_eq_false_iff_ne.2 h0
    have t1 : (r2 == 1) = false := beq_eq_false_iff_ne.2 h1
    clear h0 h1
    go_wp2_with fail
    refine (drawSAny_any B _ hs).mono ?_
    rintro e v8 ⟨x, y, z8, t, rfl, hs8, hc⟩
    replace R := Lib.hid (R.out.chg hc nR)
    replace T := Lib.hid (T.out.chg hc nT)
    replace hx := hc.ext hx hB0
    clear hc hs
    go_wp2_with fail
    refine (drawAny_any B _ hs8).mono ?_
    rintro e v9 ⟨p, q, rfl, p1, q1, hs9, hc⟩
    replace R := Lib.hid (R.out.chg hc nR)
    replace T := Lib.hid (T.out.chg hc nT)
    replace hx := hc.ext hx hB0
    clear hc hs8
    obtain ⟨⟨k0, k1, k2, k3⟩, l0, l1, l2, l3⟩ := R.out.four
    obtain ⟨⟨m0, m1⟩, o0, o1⟩ := T.out.two
    go_wp2
    exact sw_done (n := w.heap.size) (m := w.heap.size + 1) (Box.away2 (Box.set4 R.out) (by omega)) (Box.set2 (Box.away4 T.out (by omega))) (by repeat (first | with_reducible assumption | with_reducible apply Ext.alloc | with_reducible apply Ext.drew | (with_reducible refine Ext.setNew ?_ (by simp <;> omega) _))) rfl rfl rfl
end Go.Proofs.Ytpdnefodbichkaa.Draw
