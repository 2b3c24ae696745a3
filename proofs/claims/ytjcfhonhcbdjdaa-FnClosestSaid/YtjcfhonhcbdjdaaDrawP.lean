/- The contract of DrawClosestFix. -/
import Derived.Test.YtjcfhonhcbdjdaaDrawO
namespace Go.Proofs.Ytjcfhonhcbdjdaa.Trk
open Go.ChangeShapes Go.WideShapes Go.ChangeAt Go.RowKit
open Go.Proofs.Ytjcfhonhcbdjdaa.Num Go.Proofs.Ytjcfhonhcbdjdaa.Kit Go.Proofs.Ytjcfhonhcbdjdaa.Pts Go.Proofs.Ytjcfhonhcbdjdaa.Draw
set_option linter.unusedVariables false
set_option linter.unusedSimpArgs false

/-- A track and a point. -/
def TrP (w : World) (e : Ending) (w' : World) : Prop :=
  ∃ (g cap n : Nat) (x y : Int), e = .returned (.tuple #[Tr (.slice (some ⟨g, 0, none⟩) n cap), Pt x y]) ∧ n ≤ 41 ∧ n ≤ cap ∧ IntRow w' g n ∧ Ext w w'

set_option maxRecDepth 100000 in
set_option maxHeartbeats 1000000 in
theorem drawClosestFix_any (a : Option Addr) (len cap : Nat) (w : World) (hb : Bytes w a len) (hl : len ≤ 100000) : Calls Try.prog 27 #[.slice a len cap] w (TrP w) := by
  have HB := Lib.hid hb
  clear hb
  go_enter Try.func27, Try.ntmps27
  go_wp2_with fail
  refine (from_any _ _ _ _ (HB.out.ext (by repeat (first | exact Ext.refl _ | assumption | apply Ext.alloc | apply Ext.drew | (refine Ext.trans ?_ (by assumption)) | (refine Ext.setNew ?_ (by simp <;> omega) _)))) hl).mono ?_
  rintro e w1 ⟨B, rfl, hB, hs1, hx1⟩
  simp at hB
  have R1 := (((Box.new (w := w) (vs := [.slice none 0 0]) (t := 26) rfl).alloc (.cells #[.int .i64 0, .int .i64 0] 30)).ext hx1)
  have Q1 := ((Box.new2 (w := w.alloc (.cells #[.slice none 0 0] 26)) (n := w.heap.size + 1) (x := .int .i64 0) (y := .int .i64 0) (t := 30) (by simp)).ext hx1)
  have X1 := ((Ext.refl w).alloc (.cells #[.slice none 0 0] 26)).alloc (.cells #[.int .i64 0, .int .i64 0] 30) |>.trans hx1
  clear hx1
  go_wp2_with fail
  refine (drawAnyT_any _ _ hs1).mono ?_
  rintro e w2 ⟨g, tc, n, rfl, h1, h41, htc, hg, hI, hs2, hc2⟩
  have hB1 := hs1.lt
  have R2 := R1.chg hc2 (by omega)
  have Q2 := Q1.chg hc2 (by omega)
  go_wp2_with fail
  refine (drawAny_any _ _ hs2).mono ?_
  rintro e w3 ⟨x, y, rfl, hx, hy, hs3, hc3⟩
  have R3 := R2.chg hc3 (by omega)
  have Q3 := Q2.chg hc3 (by omega)
  have z1 := X1.size
  have I3 := hI.chg hc3 (by omega)
  have X3 := Lib.hid ((hc2.trans hc3).ext X1 (by omega))
  obtain ⟨r0, rf⟩ := R3 0 _ rfl
  obtain ⟨⟨q0, q1⟩, qf0, qf1⟩ := Q3.two
  clear R1 R2 Q1 Q2 hc2 hc3 hI X1 hs1 hs2 hs3 HB
  go_wp2
  have g0 : (((w3.setCell ⟨w.heap.size, 0, none⟩ (.slice (some ⟨g, 0, none⟩) n tc)).setCell ⟨w.heap.size + 1, 0, none⟩ (.int .i64 x)).setCell ⟨w.heap.size + 1, 1, none⟩ (.int .i64 y)).cell? ⟨w.heap.size, 0, none⟩ = some (.slice (some ⟨g, 0, none⟩) n tc) := by
    rw [World.cell?_setCell_other _ _ _ _ (by simp), World.cell?_setCell_other _ _ _ _ (by simp)]; exact World.cell?_setCell_same _ _ _ r0
  obtain ⟨⟨g1, g2⟩, _⟩ := ((Q3.away (p := ⟨w.heap.size, 0, none⟩) (by simp) (.slice (some ⟨g, 0, none⟩) n tc)).set2 (u := .int .i64 x) (v := .int .i64 y)).two
  exact bodyPost_ret (v := .tuple #[Tr (.slice (some ⟨g, 0, none⟩) n tc), Pt x y]) (by simp [results, Try.results27, go_sem, g0, g1, g2]) rfl
    ⟨g, tc, n, x, y, rfl, h41, htc, ((I3.chg ((Chg.refl _ _).setCell 0 _) (by omega)).chg ((Chg.refl _ _).setCell 0 _) (by omega)).chg ((Chg.refl _ _).setCell 1 _) (by omega),
      ((X3.out.setNew (p := ⟨w.heap.size, 0, none⟩) (by simp) _).setNew (p := ⟨w.heap.size + 1, 0, none⟩) (by simp) _).setNew (p := ⟨w.heap.size + 1, 1, none⟩) (by simp) _⟩

end Go.Proofs.Ytjcfhonhcbdjdaa.Trk
