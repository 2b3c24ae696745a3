/- The draws of chapter 8's laws: DrawTackOf, DrawManoeuvresOf, DrawWindwardGain. -/
import Derived.Test.YtkodmdfcppnfoaaDrawWd
import Derived.Test.YtkodmdfcppnfoaaDrawN
namespace Go.Proofs.Ytkodmdfcppnfoaa.Draw
open Go.ChangeShapes Go.WideShapes Go.ChangeAt Go.RowKit
open Go.Proofs.Ytkodmdfcppnfoaa.Num Go.Proofs.Ytkodmdfcppnfoaa.Kit Go.Proofs.Ytkodmdfcppnfoaa.Pts
open Go.Proofs.Ytkodmdfcppnfoaa.Trk (F3 Tr AnyT IntRow drawAnyT_any)
set_option linter.unusedVariables false
set_option linter.unusedSimpArgs false

/-- Two vectors come out. -/
def TwoVe (w : World) (e : Ending) (w' : World) : Prop := ∃ x y u v : Int, e = .returned (.tuple #[Pt x y, Pt u v]) ∧ Ext w w'
set_option maxHeartbeats 1000000 in
theorem drawTackOf_any (a : Option Addr) (len cap : Nat) (w : World) (hb : Bytes w a len) (hl : len ≤ 100000) : Calls Try.prog 14 #[.slice a len cap] w (TwoVe w) := by
  have HB := Lib.hid hb
  clear hb
  obtain ⟨W0, hW0⟩ : ∃ W0, W0 = (w.alloc (.cells #[.int .i64 0, .int .i64 0] 25)).alloc (.cells #[.int .i64 0, .int .i64 0] 26) := ⟨_, rfl⟩
  have hX : Ext w W0 := hW0 ▸ ((Ext.refl w).alloc _).alloc _
  have P := Lib.hid (show Box W0 w.heap.size [.int .i64 0, .int .i64 0] from hW0 ▸ (Box.new2 rfl).alloc _)
  have Q := Lib.hid (show Box W0 (w.heap.size + 1) [.int .i64 0, .int .i64 0] from hW0 ▸ Box.new2 (by simp))
  have zW : W0.heap.size = w.heap.size + 1 + 1 := by rw [hW0]; simp
  go_enter Try.func14, Try.ntmps14
  go_wp2_with fail
  rw [← hW0]
  clear hW0
  refine (from_any a len cap _ (HB.out.ext hX) hl).mono ?_
  rintro e w1 ⟨B, rfl, hB, hs, hy⟩
  replace P := Lib.hid (P.out.ext hy)
  replace Q := Lib.hid (Q.out.ext hy)
  have X := Lib.hid (hX.trans hy)
  clear hy hX
  go_wp2_with fail
  refine (drawWindAny_any B _ hs).mono ?_
  rintro e w2 ⟨x, y, rfl, hs2, hc⟩
  replace P := Lib.hid (P.out.chg hc (by omega))
  replace Q := Lib.hid (Q.out.chg hc (by omega))
  replace X := Lib.hid (hc.ext X.out (by omega))
  clear hc hs
  go_wp2_with fail
  refine (drawHeading_any B _ hs2).mono ?_
  rintro e w3 ⟨u, v, rfl, hs3, hc⟩
  replace P := Lib.hid (P.out.chg hc (by omega))
  replace Q := Lib.hid (Q.out.chg hc (by omega))
  replace X := Lib.hid (hc.ext X.out (by omega))
  clear hc hs2
  obtain ⟨⟨p0, p1⟩, p2, p3⟩ := P.out.two
  obtain ⟨⟨q0, q1⟩, q2, q3⟩ := Q.out.two
  go_wp2
  obtain ⟨⟨r0, r1⟩, _⟩ := ((P.out.set2 (u := .int .i64 x) (v := .int .i64 y)).away2 (m := w.heap.size + 1) (i := 0) (j := 1) (u := .int .i64 u) (v := .int .i64 v) (by omega)).two
  obtain ⟨⟨t0, t1⟩, _⟩ := ((Q.out.away2 (m := w.heap.size) (i := 0) (j := 1) (u := .int .i64 x) (v := .int .i64 y) (by omega)).set2 (u := .int .i64 u) (v := .int .i64 v)).two
  exact bodyPost_ret (v := .tuple #[Pt x y, Pt u v]) (by simp [results, Try.results14, go_sem, r0, r1, t0, t1]) rfl ⟨x, y, u, v, rfl, (((X.out.setNew (p := ⟨w.heap.size, 0, none⟩) (by simp) _).setNew (p := ⟨w.heap.size, 1, none⟩) (by simp) _).setNew (p := ⟨w.heap.size + 1, 0, none⟩) (by simp) _).setNew (p := ⟨w.heap.size + 1, 1, none⟩) (by simp) _⟩

/-- A wind and a track come out. -/
def WdTr (w : World) (e : Ending) (w' : World) : Prop := ∃ (x y : Int) (g cap n : Nat), e = .returned (.tuple #[Pt x y, Tr (.slice (some ⟨g, 0, none⟩) n cap)]) ∧ 1 ≤ n ∧ n ≤ 41 ∧ n ≤ cap ∧ IntRow w' g n ∧ Ext w w'
set_option maxHeartbeats 1000000 in
theorem drawManoeuvresOf_any (a : Option Addr) (len cap : Nat) (w : World) (hb : Bytes w a len) (hl : len ≤ 100000) : Calls Try.prog 18 #[.slice a len cap] w (WdTr w) := by
  have HB := Lib.hid hb
  clear hb
  obtain ⟨W0, hW0⟩ : ∃ W0, W0 = (w.alloc (.cells #[.int .i64 0, .int .i64 0] 25)).alloc (.cells #[.slice none 0 0] 33) := ⟨_, rfl⟩
  have hX : Ext w W0 := hW0 ▸ ((Ext.refl w).alloc _).alloc _
  have P := Lib.hid (show Box W0 w.heap.size [.int .i64 0, .int .i64 0] from hW0 ▸ (Box.new2 rfl).alloc _)
  have Q := Lib.hid (show Box W0 (w.heap.size + 1) [.slice none 0 0] from hW0 ▸ Box.new (vs := [.slice none 0 0]) (by simp))
  have zW : W0.heap.size = w.heap.size + 1 + 1 := by rw [hW0]; simp
  go_enter Try.func18, Try.ntmps18
  go_wp2_with fail
  rw [← hW0]
  clear hW0
  refine (from_any a len cap _ (HB.out.ext hX) hl).mono ?_
  rintro e w1 ⟨B, rfl, hB, hs, hy⟩
  replace P := Lib.hid (P.out.ext hy)
  replace Q := Lib.hid (Q.out.ext hy)
  have X := Lib.hid (hX.trans hy)
  clear hy hX
  go_wp2_with fail
  refine (drawWindAny_any B _ hs).mono ?_
  rintro e w2 ⟨x, y, rfl, hs2, hc⟩
  replace P := Lib.hid (P.out.chg hc (by omega))
  replace Q := Lib.hid (Q.out.chg hc (by omega))
  have zc := hc.size
  replace X := Lib.hid (hc.ext X.out (by omega))
  clear hc hs
  go_wp2_with fail
  refine (drawAnyT_any B _ hs2).mono ?_
  rintro e w3 ⟨g, tc, n, rfl, H1, H41, HC, hg, hI, hs3, hc⟩
  replace P := Lib.hid (P.out.chg hc (by omega))
  replace Q := Lib.hid (Q.out.chg hc (by omega))
  have lQ2 := X.out.size
  have lB := hs2.lt
  replace X := Lib.hid (hc.ext X.out (by omega))
  clear hc hs2
  obtain ⟨⟨p0, p1⟩, p2, p3⟩ := P.out.two
  obtain ⟨q0, q1⟩ := Q.out 0 _ rfl
  go_wp2
  obtain ⟨⟨r0, r1⟩, _⟩ := ((P.out.set2 (u := .int .i64 x) (v := .int .i64 y)).away (p := ⟨w.heap.size + 1, 0, none⟩) (by simp) (.slice (some ⟨g, 0, none⟩) n tc)).two
  have t0 := (((Q.out.away2 (m := w.heap.size) (i := 0) (j := 1) (u := .int .i64 x) (v := .int .i64 y) (by omega)).set 0 (by simp) (.slice (some ⟨g, 0, none⟩) n tc)) 0 _ rfl).1
  refine bodyPost_ret (v := .tuple #[Pt x y, Tr (.slice (some ⟨g, 0, none⟩) n tc)]) (by simp [results, Try.results18, go_sem, r0, r1, t0]) rfl ⟨x, y, g, tc, n, rfl, H1, H41, HC, ?_, ((X.out.setNew (p := ⟨w.heap.size, 0, none⟩) (by simp) _).setNew (p := ⟨w.heap.size, 1, none⟩) (by simp) _).setNew (p := ⟨w.heap.size + 1, 0, none⟩) (by simp) _⟩
  exact ((hI.chg ((Chg.refl w.heap.size _).setCell 0 _) (by omega)).chg ((Chg.refl w.heap.size _).setCell 1 _) (by omega)).chg ((Chg.refl (w.heap.size + 1) _).setCell 0 _) (by omega)

/-- Three vectors come out. -/
def ThreeVe (w : World) (e : Ending) (w' : World) : Prop := ∃ x y p q u v : Int, e = .returned (.tuple #[Pt x y, Pt p q, Pt u v]) ∧ Ext w w'
set_option maxHeartbeats 1000000 in
theorem drawGain_any (a : Option Addr) (len cap : Nat) (w : World) (hb : Bytes w a len) (hl : len ≤ 100000) : Calls Try.prog 22 #[.slice a len cap] w (ThreeVe w) := by
  have HB := Lib.hid hb
  clear hb
  obtain ⟨W0, hW0⟩ : ∃ W0, W0 = ((w.alloc (.cells #[.int .i64 0, .int .i64 0] 25)).alloc (.cells #[.int .i64 0, .int .i64 0] 26)).alloc (.cells #[.int .i64 0, .int .i64 0] 26) := ⟨_, rfl⟩
  have hX : Ext w W0 := hW0 ▸ (((Ext.refl w).alloc _).alloc _).alloc _
  have P := Lib.hid (show Box W0 w.heap.size [.int .i64 0, .int .i64 0] from hW0 ▸ ((Box.new2 rfl).alloc _).alloc _)
  have Q := Lib.hid (show Box W0 (w.heap.size + 1) [.int .i64 0, .int .i64 0] from hW0 ▸ (Box.new2 (by simp)).alloc _)
  have R := Lib.hid (show Box W0 (w.heap.size + 1 + 1) [.int .i64 0, .int .i64 0] from hW0 ▸ Box.new2 (by simp))
  have zW : W0.heap.size = w.heap.size + 1 + 1 + 1 := by rw [hW0]; simp
  go_enter Try.func22, Try.ntmps22
  go_wp2_with fail
  rw [← hW0]
  clear hW0
  refine (from_any a len cap _ (HB.out.ext hX) hl).mono ?_
  rintro e w1 ⟨B, rfl, hB, hs, hy⟩
  replace P := Lib.hid (P.out.ext hy)
  replace Q := Lib.hid (Q.out.ext hy)
  replace R := Lib.hid (R.out.ext hy)
  have X := Lib.hid (hX.trans hy)
  clear hy hX
  go_wp2_with fail
  refine (drawWindAny_any B _ hs).mono ?_
  rintro e w2 ⟨x, y, rfl, hs2, hc⟩
  replace P := Lib.hid (P.out.chg hc (by omega))
  replace Q := Lib.hid (Q.out.chg hc (by omega))
  replace R := Lib.hid (R.out.chg hc (by omega))
  replace X := Lib.hid (hc.ext X.out (by omega))
  clear hc hs
  go_wp2_with fail
  refine (drawAny_any B _ hs2).mono ?_
  rintro e w3 ⟨p, q, rfl, _, _, hs3, hc⟩
  replace P := Lib.hid (P.out.chg hc (by omega))
  replace Q := Lib.hid (Q.out.chg hc (by omega))
  replace R := Lib.hid (R.out.chg hc (by omega))
  replace X := Lib.hid (hc.ext X.out (by omega))
  clear hc hs2
  go_wp2_with fail
  refine (drawAny_any B _ hs3).mono ?_
  rintro e w4 ⟨u, v, rfl, _, _, hs4, hc⟩
  replace P := Lib.hid (P.out.chg hc (by omega))
  replace Q := Lib.hid (Q.out.chg hc (by omega))
  replace R := Lib.hid (R.out.chg hc (by omega))
  replace X := Lib.hid (hc.ext X.out (by omega))
  clear hc hs3
  obtain ⟨⟨p0, p1⟩, p2, p3⟩ := P.out.two
  obtain ⟨⟨q0, q1⟩, q2, q3⟩ := Q.out.two
  obtain ⟨⟨r0, r1⟩, r2, r3⟩ := R.out.two
  go_wp2
  obtain ⟨⟨P0, P1⟩, _⟩ := (((P.out.set2 (u := .int .i64 x) (v := .int .i64 y)).away2 (m := w.heap.size + 1) (i := 0) (j := 1) (u := .int .i64 p) (v := .int .i64 q) (by omega)).away2 (m := w.heap.size + 1 + 1) (i := 0) (j := 1) (u := .int .i64 u) (v := .int .i64 v) (by omega)).two
  obtain ⟨⟨Q0, Q1⟩, _⟩ := (((Q.out.away2 (m := w.heap.size) (i := 0) (j := 1) (u := .int .i64 x) (v := .int .i64 y) (by omega)).set2 (u := .int .i64 p) (v := .int .i64 q)).away2 (m := w.heap.size + 1 + 1) (i := 0) (j := 1) (u := .int .i64 u) (v := .int .i64 v) (by omega)).two
  obtain ⟨⟨R0, R1⟩, _⟩ := (((R.out.away2 (m := w.heap.size) (i := 0) (j := 1) (u := .int .i64 x) (v := .int .i64 y) (by omega)).away2 (m := w.heap.size + 1) (i := 0) (j := 1) (u := .int .i64 p) (v := .int .i64 q) (by omega)).set2 (u := .int .i64 u) (v := .int .i64 v)).two
  exact bodyPost_ret (v := .tuple #[Pt x y, Pt p q, Pt u v]) (by simp [results, Try.results22, go_sem, P0, P1, Q0, Q1, R0, R1]) rfl ⟨x, y, p, q, u, v, rfl, (((((X.out.setNew (p := ⟨w.heap.size, 0, none⟩) (by simp) _).setNew (p := ⟨w.heap.size, 1, none⟩) (by simp) _).setNew (p := ⟨w.heap.size + 1, 0, none⟩) (by simp) _).setNew (p := ⟨w.heap.size + 1, 1, none⟩) (by simp) _).setNew (p := ⟨w.heap.size + 1 + 1, 0, none⟩) (by simp; omega) _).setNew (p := ⟨w.heap.size + 1 + 1, 1, none⟩) (by simp; omega) _⟩

end Go.Proofs.Ytkodmdfcppnfoaa.Draw
