/- Contracts of PointAt (impl, spec), for all segments and ratios. -/
import Derived.Test.YtccggjhmnbebbaaSat
import Derived.Test.YtccggjhmnbebbaaBase
namespace Go.Proofs.Ytccggjhmnbebbaa.Crs
open Go.ChangeShapes Go.WideShapes Go.ChangeAt Go.RowKit
open Go.Proofs.Ytccggjhmnbebbaa.Num Go.Proofs.Ytccggjhmnbebbaa.Kit Go.Proofs.Ytccggjhmnbebbaa.Pts Go.Proofs.Ytccggjhmnbebbaa.Seg Go.Proofs.Ytccggjhmnbebbaa.Div Go.Proofs.Ytccggjhmnbebbaa.Cmp
set_option linter.unusedVariables false
set_option linter.unusedSimpArgs false

/-- What PointAt answers: the point and the code. -/
def paX (a b c d x y : Int) : Int := if sgB a b c d = true ∧ raB x y 0 = true then a + pa x y (c - a) else 0
def paY (a b c d x y : Int) : Int := if sgB a b c d = true ∧ raB x y 0 = true then b + pa x y (d - b) else 0
def paC (a b c d x y : Int) : Int := if sgB a b c d = true then (if raB x y 0 = true then 0 else 2) else 1

theorem pi_done {n : Nat} {w F : World} {tmps : Array Value} {x y z : Int} {x' y' z' : Int} (B : Box F n [.int .i64 x, .int .i64 y]) (hC : Ext w F) (ha : tmps[4]? = some (.pointer (some ⟨n, 0, none⟩))) (hz : tmps[5]? = some (.int .i64 z)) (h : x' = x) (g : y' = y) (k : z' = z) :
    bodyPost Try.prog Try.f30 (fun e w' => e = .returned (.tuple #[Pt x' y', .int .i64 z']) ∧ Ext w w') Exit.ret ⟨tmps, []⟩ F := by
  obtain ⟨⟨g0, g1⟩, _⟩ := B.two
  subst h g k
  exact bodyPost_ret (v := .tuple #[Pt x' y', .int .i64 z']) (by simp [results, Try.results30, go_sem, ha, hz, g0, g1]) rfl ⟨rfl, hC⟩
set_option maxHeartbeats 1000000 in
theorem pointAt_impl (a b c d x y : Int) (w : World) :
    Calls Try.prog 30 #[Sg a b c d, Pt x y] w fun e w' => e = .returned (.tuple #[Pt (paX a b c d x y) (paY a b c d x y), .int .i64 (paC a b c d x y)]) ∧ Ext w w' := by
  obtain ⟨W0, hW0⟩ : ∃ W0, W0 = (w.alloc (.cells #[.int .i64 a, .int .i64 b, .int .i64 c, .int .i64 d] 65)).alloc (.cells #[.int .i64 x, .int .i64 y] 40) := ⟨_, rfl⟩
  have hX : Ext w W0 := hW0 ▸ ((Ext.refl w).alloc _).alloc _
  have hs0 : W0.heap.size = w.heap.size + 1 + 1 := by rw [hW0]; simp
  have cs : ∀ i v, (#[Value.int .i64 a, .int .i64 b, .int .i64 c, .int .i64 d] : Array Value)[i]? = some v → W0.cell? ⟨w.heap.size, i, none⟩ = some v := fun i v hv => by rw [hW0]; exact ((Ext.refl _).alloc _).cellOf (boxed i hv rfl)
  have cr : ∀ i v, (#[Value.int .i64 x, .int .i64 y] : Array Value)[i]? = some v → W0.cell? ⟨w.heap.size + 1, i, none⟩ = some v := fun i v hv => by rw [hW0]; exact boxed i hv (by simp)
  have S0 := Res.new2 (W := W0) (x := .int .i64 0) (y := .int .i64 0) (t := 28)
  rw [hs0] at S0
  have e0 : ∀ w', Res W0 (w.heap.size + 1 + 1) 2 w' → w'.cell? ⟨w.heap.size, 0, none⟩ = some (.int .i64 a) := fun w' h => h.1.cellOf (cs 0 _ rfl)
  have e1 : ∀ w', Res W0 (w.heap.size + 1 + 1) 2 w' → w'.cell? ⟨w.heap.size, 1, none⟩ = some (.int .i64 b) := fun w' h => h.1.cellOf (cs 1 _ rfl)
  have e2 : ∀ w', Res W0 (w.heap.size + 1 + 1) 2 w' → w'.cell? ⟨w.heap.size, 2, none⟩ = some (.int .i64 c) := fun w' h => h.1.cellOf (cs 2 _ rfl)
  have e3 : ∀ w', Res W0 (w.heap.size + 1 + 1) 2 w' → w'.cell? ⟨w.heap.size, 3, none⟩ = some (.int .i64 d) := fun w' h => h.1.cellOf (cs 3 _ rfl)
  have e4 : ∀ w', Res W0 (w.heap.size + 1 + 1) 2 w' → w'.cell? ⟨w.heap.size + 1, 0, none⟩ = some (.int .i64 x) := fun w' h => h.1.cellOf (cr 0 _ rfl)
  have e5 : ∀ w', Res W0 (w.heap.size + 1 + 1) 2 w' → w'.cell? ⟨w.heap.size + 1, 1, none⟩ = some (.int .i64 y) := fun w' h => h.1.cellOf (cr 1 _ rfl)
  clear cs cr
  generalize hW1 : W0.alloc (.cells #[.int .i64 0, .int .i64 0] 28) = W1 at S0
  go_enter Try.func30, Try.ntmps30
  go_wp2_with fail
  refine (sgValid_any _ _ _ _ _).mono ?_
  rintro e w1 ⟨rfl, hy⟩
  rw [← hW0, hW1] at hy
  have S1 := S0.ext hy
  clear S0 hy hW0 hW1 hs0
  cases h1 : sgB a b c d
  · have HX := Lib.hid (show paX a b c d x y = 0 from if_neg (by simp [h1]))
    have HY := Lib.hid (show paY a b c d x y = 0 from if_neg (by simp [h1]))
    have HC := Lib.hid (show paC a b c d x y = 1 from if_neg (by simp [h1]))
    obtain ⟨x0, y0, B⟩ := S1.two
    obtain ⟨⟨r0, r1⟩, r2, r3⟩ := B.two
    have XB := Lib.hid B
    clear B
    go_wp2
    exact pi_done (XB.out.set2) (hX.trans ((S1.set 0 _).set 1 _).1) rfl rfl HX.out HY.out HC.out
  go_wp2_with fail
  refine (isWithin0_any _ _ _).mono ?_
  rintro e w2 ⟨rfl, hy⟩
  replace S1 := S1.ext hy
  clear hy
  cases h2 : raB x y 0
  · have HX := Lib.hid (show paX a b c d x y = 0 from if_neg (by simp [h2]))
    have HY := Lib.hid (show paY a b c d x y = 0 from if_neg (by simp [h2]))
    have HC := Lib.hid (show paC a b c d x y = 2 from (if_pos h1).trans (if_neg (by simp [h2])))
    obtain ⟨x0, y0, B⟩ := S1.two
    obtain ⟨⟨r0, r1⟩, r2, r3⟩ := B.two
    have XB := Lib.hid B
    clear B
    go_wp2
    exact pi_done (XB.out.set2) (hX.trans ((S1.set 0 _).set 1 _).1) rfl rfl HX.out HY.out HC.out
  have HX := Lib.hid (show paX a b c d x y = a + pa x y (c - a) from if_pos ⟨h1, h2⟩)
  have HY := Lib.hid (show paY a b c d x y = b + pa x y (d - b) from if_pos ⟨h1, h2⟩)
  have HC := Lib.hid (show paC a b c d x y = 0 from (if_pos h1).trans (if_pos h2))
  obtain ⟨⟨ga, gb, gc, gd⟩, _⟩ := sgB_yes h1
  obtain ⟨y1, y2, x1, x2⟩ := raB_yes h2
  go_wp2_with fail
  refine (at_any _ _ _ _ _ _ _ ga gb gc gd (by omega) x2 y1 y2).mono ?_
  rintro e w3 ⟨rfl, hy⟩
  replace S1 := S1.ext hy
  clear hy e0 e1 e2 e3 e4 e5
  obtain ⟨x0, y0, B⟩ := S1.two
  obtain ⟨⟨r0, r1⟩, r2, r3⟩ := B.two
  have XB := Lib.hid B
  clear B
  generalize a + pa x y (c - a) = PX at *
  generalize b + pa x y (d - b) = PY at *
  go_wp2
  exact pi_done (XB.out.set2) (hX.trans ((S1.set 0 _).set 1 _).1) rfl rfl HX.out HY.out HC.out

end Go.Proofs.Ytccggjhmnbebbaa.Crs
