/- The contract of DrawLegLengths: a course comes out, valid or not, and nothing that was there is written. -/
import Derived.Test.YtiofplgbbbdkfaaDrawCe
namespace Go.Proofs.Ytiofplgbbbdkfaa.Crs
open Go.ChangeShapes Go.WideShapes Go.ChangeAt Go.RowKit
open Go.Proofs.Ytiofplgbbbdkfaa.Num Go.Proofs.Ytiofplgbbbdkfaa.Kit Go.Proofs.Ytiofplgbbbdkfaa.Pts Go.Proofs.Ytiofplgbbbdkfaa.Seg Go.Proofs.Ytiofplgbbbdkfaa.Draw
set_option linter.unusedVariables false
set_option linter.unusedSimpArgs false

/-- A course that a draw made. -/
def OneC (w : World) (e : Ending) (w' : World) : Prop :=
  ∃ (l k : L4) (v : Value) (ms : List M5), e = .returned (CV l k v) ∧ ms.length ≤ 9 ∧ Fit ms ∧ OwnM w' w.heap.size v ms ∧ Ext w w'
theorem ll_done {n : Nat} {w F : World} {tmps : Array Value} {l k : L4} {v : Value} {ms : List M5} (R : Box F n (cellsC l k v)) (h9 : ms.length ≤ 9) (hf : Fit ms) (hO : OwnM F w.heap.size v ms) (hx : Ext w F) (ha : tmps[2]? = some (.pointer (some ⟨n, 0, none⟩))) :
    bodyPost Try.prog Try.f6 (OneC w) Exit.ret ⟨tmps, []⟩ F := by
  obtain ⟨⟨g0, g1, g2, g3, g4, g5, g6, g7, g8⟩, _⟩ := Box.nine R
  exact bodyPost_ret (v := CV l k v) (by simp [results, Try.results6, go_sem, ha, g0, g1, g2, g3, g4, g5, g6, g7, g8]) rfl ⟨l, k, v, ms, rfl, h9, hf, hO, hx⟩

set_option maxRecDepth 100000 in
set_option maxHeartbeats 2000000 in
theorem drawLegLengths_any (a : Option Addr) (len cap : Nat) (w : World) (hb : Bytes w a len) (hl : len ≤ 100000) : Calls Try.prog 6 #[.slice a len cap] w (OneC w) := by
  have HB := Lib.hid hb
  clear hb
  obtain ⟨W0, hW0⟩ : ∃ W0, W0 = w.alloc (.cells (cellsC zeroL zeroL (.slice none 0 0)).toArray 30) := ⟨_, rfl⟩
  have hX : Ext w W0 := hW0 ▸ (Ext.refl w).alloc _
  have hz0 : W0.heap.size = w.heap.size + 1 := by rw [hW0]; simp
  have R := Lib.hid (show Box W0 w.heap.size (cellsC zeroL zeroL (.slice none 0 0)) by rw [hW0]; exact Box.new rfl)
  go_enter Try.func6, Try.ntmps6
  go_wp2_with fail
  rw [← hW0]
  clear hW0
  refine (from_any _ _ _ _ (HB.out.ext hX) hl).mono ?_
  rintro e w1 ⟨B, rfl, hB, hs1, hx1⟩
  replace R := Lib.hid (R.out.ext hx1)
  have hx := hX.trans hx1
  have z1 := Ext.size hx1
  clear hx1 hX
  go_wp2_with fail
  refine (drawCAny_any B w1 hs1).mono ?_
  rintro e w2 ⟨l, k, v, ms, rfl, h9, hFit, hO, hs2, hc⟩
  replace R := Lib.hid (R.out.chg hc (by omega))
  replace hx := Lib.hid (hc.ext hx (by omega))
  have HO := Lib.hid (show OwnM w2 w.heap.size v ms from row_mono (b2 := w.heap.size) hO (by omega))
  have nO := Lib.hid (hO.block (B := w.heap.size) (by omega))
  replace hFit := Lib.hid hFit
  clear hc hs1 hs2 hO
  have RB := Lib.hid (Box.put9 R.out (.int .i64 l.a) (.int .i64 l.b) (.int .i64 l.c) (.int .i64 l.d) (.int .i64 k.a) (.int .i64 k.b) (.int .i64 k.c) (.int .i64 k.d) v)
  have XB := Lib.hid (Ext.put9 hx.out (n := w.heap.size) (Nat.le_refl _) (.int .i64 l.a) (.int .i64 l.b) (.int .i64 l.c) (.int .i64 l.d) (.int .i64 k.a) (.int .i64 k.b) (.int .i64 k.c) (.int .i64 k.d) v)
  have OB := Lib.hid (OwnM.chg HO.out (Chg.put9 (n := w.heap.size) (.int .i64 l.a) (.int .i64 l.b) (.int .i64 l.c) (.int .i64 l.d) (.int .i64 k.a) (.int .i64 k.b) (.int .i64 k.c) (.int .i64 k.d) v) nO.out)
  obtain ⟨ao, cap', hv, -⟩ := HO.out.src
  subst hv
  obtain ⟨⟨r0, r1, r2, r3, r4, r5, r6, r7, r8⟩, g0, g1, g2, g3, g4, g5, g6, g7, g8⟩ := Box.nine R.out
  clear R HO nO hx
  go_wp2
  exact ll_done RB.out h9 hFit.out OB.out XB.out rfl

end Go.Proofs.Ytiofplgbbbdkfaa.Crs
