/- Crossings of the laws: contract of toCrossing. -/
import Derived.Test.YtmliggimmfbbdaaMom2
import Derived.Test.YtmliggimmfbbdaaSeg
namespace Go.Proofs.Ytmliggimmfbbdaa.Trk
open Go.ChangeShapes Go.WideShapes Go.ChangeAt Go.RowKit
open Go.Proofs.Ytmliggimmfbbdaa.Num Go.Proofs.Ytmliggimmfbbdaa.Kit Go.Proofs.Ytmliggimmfbbdaa.Pts Go.Proofs.Ytmliggimmfbbdaa.Seg
set_option linter.unusedVariables false
set_option linter.unusedSimpArgs false

theorem crc_done {n : Nat} {w F : World} {tmps : Array Value} {t l g x y : Int} (B : Box F n [.int .i64 t, .int .i64 l, .int .i64 g, .int .i64 x, .int .i64 y]) (hC : Ext w F) (ha : tmps[2]? = some (.pointer (some ⟨n, 0, none⟩))) :
    bodyPost Try.prog Try.f39 (fun e w' => e = .returned (Cr t l g x y) ∧ Ext w w') Exit.ret ⟨tmps, []⟩ F := by
  obtain ⟨⟨g0, g1, g2, g3, g4⟩, _⟩ := B.five
  exact bodyPost_ret (v := Cr t l g x y) (by simp [results, Try.results39, go_sem, ha, g0, g1, g2, g3, g4]) rfl ⟨rfl, hC⟩

set_option maxHeartbeats 1000000 in
theorem toCrossing_any (t l g x y : Int) (w : World) : Calls Try.prog 39 #[Cr t l g x y] w fun e w' => e = .returned (Cr t l g x y) ∧ Ext w w' := by
  go_enter Try.func39, Try.ntmps39
  go_wp2_with fail
  refine (toRatio_any _ _ _).mono ?_
  rintro e w1 ⟨rfl, hy⟩
  have B1 := Lib.hid (((Box.new5 (w := w.alloc (.cells #[.int .i64 t, .int .i64 l, .int .i64 g, .int .i64 x, .int .i64 y] 67)) (n := w.heap.size + 1) (x := .int .i64 0) (y := .int .i64 0) (z := .int .i64 0) (u := .int .i64 0) (r := .int .i64 0) (t := 51) (by simp)).alloc (.cells #[.int .i64 t, .int .i64 l, .int .i64 g, .int .i64 0, .int .i64 0] 51)).ext hy)
  have B2 := Lib.hid ((Box.new5 (w := (w.alloc (.cells #[.int .i64 t, .int .i64 l, .int .i64 g, .int .i64 x, .int .i64 y] 67)).alloc (.cells #[.int .i64 0, .int .i64 0, .int .i64 0, .int .i64 0, .int .i64 0] 51)) (n := w.heap.size + 1 + 1) (x := .int .i64 t) (y := .int .i64 l) (z := .int .i64 g) (u := .int .i64 0) (r := .int .i64 0) (t := 51) (by simp)).ext hy)
  have hx : Ext w w1 := (((Ext.refl w).alloc _).alloc _).alloc _ |>.trans hy
  obtain ⟨⟨p0, p1, p2, p3, p4⟩, q0, q1, q2, q3, q4⟩ := B2.out.five
  obtain ⟨⟨r0, r1, r2, r3, r4⟩, s0, s1, s2, s3, s4⟩ := B1.out.five
  clear hy
  go_wp2
  refine crc_done (((B1.out.away (p := ⟨w.heap.size + 1 + 1, 3, none⟩) (by simp) (.int .i64 x)).away (p := ⟨w.heap.size + 1 + 1, 4, none⟩) (by simp) (.int .i64 y)).set5 (a := .int .i64 t) (b := .int .i64 l) (c := .int .i64 g) (d := .int .i64 x) (e := .int .i64 y)) ?_ rfl
  exact (((((((hx.setNew (p := ⟨w.heap.size + 1 + 1, 3, none⟩) (by simp <;> omega) _).setNew (p := ⟨w.heap.size + 1 + 1, 4, none⟩) (by simp <;> omega) _).setNew (p := ⟨w.heap.size + 1, 0, none⟩) (by simp <;> omega) _).setNew (p := ⟨w.heap.size + 1, 1, none⟩) (by simp <;> omega) _).setNew (p := ⟨w.heap.size + 1, 2, none⟩) (by simp <;> omega) _).setNew (p := ⟨w.heap.size + 1, 3, none⟩) (by simp <;> omega) _).setNew (p := ⟨w.heap.size + 1, 4, none⟩) (by simp <;> omega) _)

end Go.Proofs.Ytmliggimmfbbdaa.Trk
