/- The contract of DrawCrossingsOf: a track and a line come out, and nothing that was there is written. -/
import Derived.Test.YtccggjhmnbebbaaDrawTl
import Derived.Deep.DeepCutAuto
namespace Go.Proofs.Ytccggjhmnbebbaa.Trk
open Go.ChangeShapes Go.WideShapes Go.ChangeAt Go.RowKit
open Go.Proofs.Ytccggjhmnbebbaa.Num Go.Proofs.Ytccggjhmnbebbaa.Kit Go.Proofs.Ytccggjhmnbebbaa.Pts Go.Proofs.Ytccggjhmnbebbaa.Draw Go.Proofs.Ytccggjhmnbebbaa.Seg
set_option linter.unusedVariables false
set_option linter.unusedSimpArgs false

/-- A track and a line. -/
def TrL (w : World) (e : Ending) (w' : World) : Prop :=
  ∃ (g cap n : Nat) (a b c d : Int), e = .returned (.tuple #[Tr (.slice (some ⟨g, 0, none⟩) n cap), Sg a b c d]) ∧ n ≤ 41 ∧ n ≤ cap ∧ IntRow w' g n ∧ Ext w w'

theorem cc_done {n g cap k : Nat} {w F : World} {tmps : Array Value} {a b c d : Int} (R : Box F n [.slice (some ⟨g, 0, none⟩) k cap]) (T : Box F (n + 1) [.int .i64 a, .int .i64 b, .int .i64 c, .int .i64 d]) (h2 : k ≤ 41) (h3 : k ≤ cap) (hI : IntRow F g k) (hC : Ext w F)
    (ha : tmps[2]? = some (.pointer (some ⟨n, 0, none⟩))) (hb : tmps[3]? = some (.pointer (some ⟨n + 1, 0, none⟩))) : bodyPost Try.prog Try.f7 (TrL w) Exit.ret ⟨tmps, []⟩ F := by
  obtain ⟨⟨f0, f1, f2, f3⟩, _⟩ := T.four
  have g0 := (R 0 _ rfl).1
  exact bodyPost_ret (v := .tuple #[Tr (.slice (some ⟨g, 0, none⟩) k cap), Sg a b c d]) (by simp [results, Try.results7, go_sem, ha, hb, g0, f0, f1, f2, f3]) rfl ⟨g, cap, k, a, b, c, d, rfl, h2, h3, hI, hC⟩

set_option maxRecDepth 100000 in
set_option maxHeartbeats 2000000 in
theorem drawCrossingsOf_any (a : Option Addr) (len cap : Nat) (w : World) (hb : Bytes w a len) (hl : len ≤ 100000) : Calls Try.prog 7 #[.slice a len cap] w (TrL w) := by
  have HB := Lib.hid hb
  clear hb
  obtain ⟨W0, hW0⟩ : ∃ W0, W0 = (w.alloc (.cells #[.slice none 0 0] 26)).alloc (.cells #[.int .i64 0, .int .i64 0, .int .i64 0, .int .i64 0] 30) := ⟨_, rfl⟩
  have hX : Ext w W0 := hW0 ▸ ((Ext.refl w).alloc _).alloc _
  have hz0 : W0.heap.size = w.heap.size + 1 + 1 := by rw [hW0]; simp
  have R1 := Lib.hid (show Box W0 w.heap.size [.slice none 0 0] by rw [hW0]; exact (Box.new rfl).alloc _)
  have R2 := Lib.hid (show Box W0 (w.heap.size + 1) [.int .i64 0, .int .i64 0, .int .i64 0, .int .i64 0] by rw [hW0]; exact Box.new4 (by simp))
  go_enter Try.func7, Try.ntmps7
  go_wp2_with fail
  rw [← hW0]
  clear hW0
  refine (from_any _ _ _ _ (HB.out.ext hX) hl).mono ?_
  rintro e w1 ⟨B, rfl, hB, hs1, hx1⟩
  replace R1 := Lib.hid (R1.out.ext hx1)
  replace R2 := Lib.hid (R2.out.ext hx1)
  have hx := hX.trans hx1
  have z1 := Ext.size hx1
  clear hx1 hX
  go_wp2_with fail
  refine (draw5_any _ _ hs1).mono ?_
  rintro e w2 ⟨g, tc, n, x, y, z, t, rfl, h1, h41, htc, hg, hI, hs2, hc⟩
  replace R1 := Lib.hid (R1.out.chg hc (by omega))
  replace R2 := Lib.hid (R2.out.chg hc (by omega))
  replace hx := hc.ext hx (by omega)
  clear hc hs1 hs2
  obtain ⟨k0, l0⟩ := R1.out 0 _ rfl
  obtain ⟨⟨m0, m1, m2, m3⟩, o0, o1, o2, o3⟩ := R2.out.four
  have C1 : Chg w.heap.size w2 (w2.setCell ⟨w.heap.size, 0, none⟩ (.slice (some ⟨g, 0, none⟩) n tc)) := (Chg.refl _ _).setCell _ _
  go_wp2
  refine cc_done (n := w.heap.size) (g := g) (k := n) (cap := tc) (a := x) (b := y) (c := z) (d := t) (Box.away4 (R1.out.set 0 (by simp) _) (by omega)) (Box.set4 (R2.out.away (by simp) _)) h41 htc ?_ ?_ rfl rfl
  · exact ((((hI.chg C1 (by omega)).chg ((Chg.refl (w.heap.size + 1) _).setCell _ _) (by omega)).chg ((Chg.refl (w.heap.size + 1) _).setCell _ _) (by omega)).chg ((Chg.refl (w.heap.size + 1) _).setCell _ _) (by omega)).chg ((Chg.refl (w.heap.size + 1) _).setCell _ _) (by omega)
  · exact ((((hx.setNew (by simp) _).setNew (by simp) _).setNew (by simp) _).setNew (by simp) _).setNew (by simp) _

end Go.Proofs.Ytccggjhmnbebbaa.Trk
