import Derived.Test.YtpdnefodbichkaaMks
import Derived.Lib.SmallJoins
import Derived.OpenShut
import Derived.Deep.Slices
import Derived.Deep.Fields
import Derived.ChangeSame
namespace Go.Proofs.Ytpdnefodbichkaa.Crs
open Go.ChangeShapes Go.WideShapes Go.ChangeAt Go.RowKit Go.Deep
open Go.Proofs.Ytpdnefodbichkaa.Num Go.Proofs.Ytpdnefodbichkaa.Kit Go.Proofs.Ytpdnefodbichkaa.Pts Go.Proofs.Ytpdnefodbichkaa.Seg
set_option linter.unusedVariables false
set_option linter.unusedSimpArgs false
theorem Box.nine {w : World} {n : Nat} {a b c d e f g h i : Value} (B : Box w n [a, b, c, d, e, f, g, h, i]) :
    (w.cell? ⟨n, 0, none⟩ = some a ∧ w.cell? ⟨n, 1, none⟩ = some b ∧ w.cell? ⟨n, 2, none⟩ = some c ∧ w.cell? ⟨n, 3, none⟩ = some d ∧ w.cell? ⟨n, 4, none⟩ = some e ∧ w.cell? ⟨n, 5, none⟩ = some f ∧ w.cell? ⟨n, 6, none⟩ = some g ∧ w.cell? ⟨n, 7, none⟩ = some h ∧ w.cell? ⟨n, 8, none⟩ = some i) ∧
    w.frozen? ⟨n, 0, none⟩ = false ∧ w.frozen? ⟨n, 1, none⟩ = false ∧ w.frozen? ⟨n, 2, none⟩ = false ∧ w.frozen? ⟨n, 3, none⟩ = false ∧ w.frozen? ⟨n, 4, none⟩ = false ∧ w.frozen? ⟨n, 5, none⟩ = false ∧ w.frozen? ⟨n, 6, none⟩ = false ∧ w.frozen? ⟨n, 7, none⟩ = false ∧ w.frozen? ⟨n, 8, none⟩ = false :=
  ⟨⟨(B 0 _ rfl).1, (B 1 _ rfl).1, (B 2 _ rfl).1, (B 3 _ rfl).1, (B 4 _ rfl).1, (B 5 _ rfl).1, (B 6 _ rfl).1, (B 7 _ rfl).1, (B 8 _ rfl).1⟩, (B 0 _ rfl).2, (B 1 _ rfl).2, (B 2 _ rfl).2, (B 3 _ rfl).2, (B 4 _ rfl).2, (B 5 _ rfl).2, (B 6 _ rfl).2, (B 7 _ rfl).2, (B 8 _ rfl).2⟩
abbrev cellsC (l k : L4) (v : Value) : List Value := [.int .i64 l.a, .int .i64 l.b, .int .i64 l.c, .int .i64 l.d, .int .i64 k.a, .int .i64 k.b, .int .i64 k.c, .int .i64 k.d, v]
abbrev zeroL : L4 := ⟨0, 0, 0, 0⟩
abbrev put4 (w : World) (B o : Nat) (a b c d : Value) : World := (((w.setCell ⟨B, o, none⟩ a).setCell ⟨B, o + 1, none⟩ b).setCell ⟨B, o + 2, none⟩ c).setCell ⟨B, o + 3, none⟩ d
theorem Box.put4_away {w : World} {n B o : Nat} {vs : List Value} {a b c d : Value} (h : Box w n vs) (hn : B ≠ n) : Box (put4 w B o a b c d) n vs := (((h.away hn _).away hn _).away hn _).away hn _
theorem course_done {n : Nat} {F : World} {tmps : Array Value} {l k : L4} {v : Value} {Q : Ending → World → Prop} (B : Box F n (cellsC l k v)) (hQ : Q (.returned (CV l k v)) F) (ha : tmps[2]? = some (.pointer (some ⟨n, 0, none⟩))) :
    bodyPost Try.prog Try.f19 Q Exit.ret ⟨tmps, []⟩ F := by
  obtain ⟨⟨g0, g1, g2, g3, g4, g5, g6, g7, g8⟩, _⟩ := Box.nine B
  exact bodyPost_ret (v := CV l k v) (by simp [results, Try.results19, go_sem, ha, g0, g1, g2, g3, g4, g5, g6, g7, g8]) rfl hQ
theorem Own.set {w : World} {B n i : Nat} {ms : List M5} (h : Own w B ms) (hn : B ≠ n) (u : Value) : Own (w.setCell ⟨n, i, none⟩ u) B ms := h.away ((Chg.refl n w).setCell i u) hn
def NewC (w : World) (l k : L4) (ms : List M5) (e : Ending) (w' : World) : Prop := ∃ B, e = .returned (CV l k (.slice (some ⟨B, 0, none⟩) ms.length ms.length)) ∧ w.heap.size ≤ B ∧ Own w' B ms ∧ Ext w w'
set_option maxHeartbeats 1000000 in
theorem toCourse_any (l k : L4) (a : Option Addr) (cap : Nat) (ms : List M5) (w : World) (hf : Mks w a ms) (hl : ms.length ≤ 1048576) : Calls Try.prog 19 #[CV l k (.slice a ms.length cap)] w (NewC w l k ms) := by
  have HF := Lib.hid hf
  have HL := Lib.hid hl
  clear hf hl
  go_enter Try.func19, Try.ntmps19
  go_wp2_with fail
  refine (toLine_any _ _ _ _ _).mono ?_
  rintro e w1 ⟨rfl, hx⟩
  have B0 := Lib.hid ((((Box.new (w := w) (n := w.heap.size) (vs := cellsC l k (.slice a ms.length cap)) (t := 54) rfl).alloc _).alloc _).ext hx)
  have B1 := Lib.hid (((Box.new (w := w.alloc (.cells (cellsC l k (.slice a ms.length cap)).toArray 54)) (n := w.heap.size + 1) (vs := cellsC zeroL zeroL (.slice none 0 0)) (t := 43) (by simp)).alloc _).ext hx)
  have B2 := Lib.hid ((Box.new (w := (w.alloc (.cells (cellsC l k (.slice a ms.length cap)).toArray 54)).alloc (.cells (cellsC zeroL zeroL (.slice none 0 0)).toArray 43)) (n := w.heap.size + 1 + 1) (vs := cellsC zeroL zeroL (.slice none 0 0)) (t := 43) (by simp)).ext hx)
  have X := Lib.hid ((((Ext.refl w).alloc _).alloc _).alloc _ |>.trans hx)
  clear hx
  obtain ⟨⟨p0, p1, p2, p3, p4, p5, p6, p7, p8⟩, _⟩ := Box.nine B0.out
  obtain ⟨⟨i0, i1, i2, i3, i4, i5, i6, i7, i8⟩, j0, j1, j2, j3, j4, j5, j6, j7, j8⟩ := Box.nine B2.out
  go_wp2_with fail
  refine (toLine_any _ _ _ _ _).mono ?_
  rintro e w2 ⟨rfl, hx⟩
  clear p0 p1 p2 p3 p4 p5 p6 p7 p8 i0 i1 i2 i3 i4 i5 i6 i7 i8 j0 j1 j2 j3 j4 j5 j6 j7 j8
  replace B0 := Lib.hid ((Box.put4_away B0.out (B := w.heap.size + 1 + 1) (o := 0) (by omega)).ext hx)
  replace B1 := Lib.hid ((Box.put4_away B1.out (B := w.heap.size + 1 + 1) (o := 0) (by omega)).ext hx)
  replace B2 := Lib.hid (show Box w2 (w.heap.size + 1 + 1) (cellsC l zeroL (.slice none 0 0)) from ((((B2.out.set 0 (by simp) (.int .i64 l.a)).set 1 (by simp) (.int .i64 l.b)).set 2 (by simp) (.int .i64 l.c)).set 3 (by simp) (.int .i64 l.d)).ext hx)
  replace X := Lib.hid (((((X.out.setNew (p := ⟨w.heap.size + 1 + 1, 0, none⟩) (by simp; omega) _).setNew (p := ⟨w.heap.size + 1 + 1, 1, none⟩) (by simp; omega) _).setNew (p := ⟨w.heap.size + 1 + 1, 2, none⟩) (by simp; omega) _).setNew (p := ⟨w.heap.size + 1 + 1, 3, none⟩) (by simp; omega) _).trans hx)
  clear hx
  obtain ⟨⟨p0, p1, p2, p3, p4, p5, p6, p7, p8⟩, _⟩ := Box.nine B0.out
  obtain ⟨⟨i0, i1, i2, i3, i4, i5, i6, i7, i8⟩, j0, j1, j2, j3, j4, j5, j6, j7, j8⟩ := Box.nine B2.out
  go_wp2_with fail
  have zw2 := World.block_lt_of_cell? w2 _ (B2.out 0 _ rfl).1
  simp at zw2
  refine (toMarkS_any _ _ _ _ (HF.out.ext (by first | exact ((((X.out.setNew (p := ⟨w.heap.size + 1 + 1, 4, none⟩) (by simp; omega) _).setNew (p := ⟨w.heap.size + 1 + 1, 5, none⟩) (by simp; omega) _).setNew (p := ⟨w.heap.size + 1 + 1, 6, none⟩) (by simp; omega) _).setNew (p := ⟨w.heap.size + 1 + 1, 7, none⟩) (by simp; omega) _))) HL.out).mono ?_
  rintro e w3 ⟨B, rfl, hB, hO, hx⟩
  clear p0 p1 p2 p3 p4 p5 p6 p7 p8 i0 i1 i2 i3 i4 i5 i6 i7 i8 j0 j1 j2 j3 j4 j5 j6 j7 j8
  replace B1 := Lib.hid ((Box.put4_away B1.out (B := w.heap.size + 1 + 1) (o := 4) (by omega)).ext hx)
  replace B2 := Lib.hid (show Box w3 (w.heap.size + 1 + 1) (cellsC l k (.slice none 0 0)) from ((((B2.out.set 4 (by simp) (.int .i64 k.a)).set 5 (by simp) (.int .i64 k.b)).set 6 (by simp) (.int .i64 k.c)).set 7 (by simp) (.int .i64 k.d)).ext hx)
  replace X := Lib.hid (((((X.out.setNew (p := ⟨w.heap.size + 1 + 1, 4, none⟩) (by simp; omega) _).setNew (p := ⟨w.heap.size + 1 + 1, 5, none⟩) (by simp; omega) _).setNew (p := ⟨w.heap.size + 1 + 1, 6, none⟩) (by simp; omega) _).setNew (p := ⟨w.heap.size + 1 + 1, 7, none⟩) (by simp; omega) _).trans hx)
  have zB : w.heap.size + 1 + 1 + 1 ≤ B := by
    have z1 := zw2
    simp at hB
    omega
  have HO := Lib.hid hO
  clear hx hO hB
  obtain ⟨⟨h0, h1, h2, h3, h4, h5, h6, h7, h8⟩, f0, f1, f2, f3, f4, f5, f6, f7, f8⟩ := Box.nine B1.out
  obtain ⟨⟨i0, i1, i2, i3, i4, i5, i6, i7, i8⟩, j0, j1, j2, j3, j4, j5, j6, j7, j8⟩ := Box.nine B2.out
  have HB1 := Lib.hid (fun (u : Value) => ((((((((((B1.out.away (p := ⟨w.heap.size + 1 + 1, 8, none⟩) (by simp) u).set 0 (by simp) (.int .i64 l.a)).set 1 (by simp) (.int .i64 l.b)).set 2 (by simp) (.int .i64 l.c)).set 3 (by simp) (.int .i64 l.d)).set 4 (by simp) (.int .i64 k.a)).set 5 (by simp) (.int .i64 k.b)).set 6 (by simp) (.int .i64 k.c)).set 7 (by simp) (.int .i64 k.d)).set 8 (by simp) u))
  go_wp2
  refine course_done (HB1.out _) ?_ rfl
  refine ⟨B, rfl, by omega, ?_, ?_⟩
  · exact ((((((((((HO.out.set (by omega) _).set (by omega) _).set (by omega) _).set (by omega) _).set (by omega) _).set (by omega) _).set (by omega) _).set (by omega) _).set (by omega) _).set (by omega) _)
  · exact (((((((((X.out.setNew (p := ⟨w.heap.size + 1 + 1, 8, none⟩) (by simp; omega) _).setNew (p := ⟨w.heap.size + 1, 0, none⟩) (by simp) _).setNew (p := ⟨w.heap.size + 1, 1, none⟩) (by simp) _).setNew (p := ⟨w.heap.size + 1, 2, none⟩) (by simp) _).setNew (p := ⟨w.heap.size + 1, 3, none⟩) (by simp) _).setNew (p := ⟨w.heap.size + 1, 4, none⟩) (by simp) _).setNew (p := ⟨w.heap.size + 1, 5, none⟩) (by simp) _).setNew (p := ⟨w.heap.size + 1, 6, none⟩) (by simp) _).setNew (p := ⟨w.heap.size + 1, 7, none⟩) (by simp) _).setNew (p := ⟨w.heap.size + 1, 8, none⟩) (by simp) _
set_option maxHeartbeats 1000000 in
theorem eqCourse_same (l k : L4) (a b : Option Addr) (cap cap' : Nat) (ms : List M5) (w : World) (ha : Mks w a ms) (hb : Mks w b ms) : Calls Try.prog 21 #[CV l k (.slice a ms.length cap), CV l k (.slice b ms.length cap')] w fun e w' => e = .returned (.bool true) ∧ Ext w w' := by
  have HA := Lib.hid ha
  have HB := Lib.hid hb
  clear ha hb
  go_enter Try.func21, Try.ntmps21
  go_wp2_with fail
  refine (eqLine_same l _).mono ?_
  rintro e w1 ⟨rfl, hx⟩
  have B0 := Lib.hid (((Box.new (w := w) (n := w.heap.size) (vs := cellsC l k (.slice a ms.length cap)) (t := 43) rfl).alloc _).ext hx)
  have B1 := Lib.hid ((Box.new (w := w.alloc (.cells (cellsC l k (.slice a ms.length cap)).toArray 43)) (n := w.heap.size + 1) (vs := cellsC l k (.slice b ms.length cap')) (t := 43) (by simp)).ext hx)
  have X := Lib.hid (((Ext.refl w).alloc _).alloc _ |>.trans hx)
  clear hx
  obtain ⟨⟨p0, p1, p2, p3, p4, p5, p6, p7, p8⟩, _⟩ := Box.nine B0.out
  obtain ⟨⟨i0, i1, i2, i3, i4, i5, i6, i7, i8⟩, _⟩ := Box.nine B1.out
  go_wp2_with fail
  refine (eqLine_same k _).mono ?_
  rintro e w2 ⟨rfl, hx⟩
  replace p8 := hx.cellOf p8
  replace i8 := hx.cellOf i8
  replace X := Lib.hid (X.out.trans hx)
  clear hx p0 p1 p2 p3 p4 p5 p6 p7 i0 i1 i2 i3 i4 i5 i6 i7
  go_wp2_with fail
  refine (eqMarkS_same _ _ _ _ _ _ (HA.out.ext X.out) (HB.out.ext X.out)).mono ?_
  rintro e w3 ⟨rfl, hx⟩
  go_wp2
  go_ret
  exact ⟨rfl, X.out.trans hx⟩
end Go.Proofs.Ytpdnefodbichkaa.Crs
