/- Contracts of NearestPlace (impl, spec), for all arguments. -/
import Derived.Test.YtcdbnbfhohidnaaNear
namespace Go.Proofs.Ytcdbnbfhohidnaa.Gcd
open Go.ChangeShapes Go.WideShapes Go.ChangeAt Go.RowKit
open Go.Proofs.Ytcdbnbfhohidnaa.Num Go.Proofs.Ytcdbnbfhohidnaa.Kit Go.Proofs.Ytcdbnbfhohidnaa.Pts Go.Proofs.Ytcdbnbfhohidnaa.Seg
set_option linter.unusedVariables false
set_option linter.unusedSimpArgs false

def npN (a b c d p q : Int) : Int := if sgB a b c d = true ∧ ptB p q = true then neN a b c d p q else 0
def npD (a b c d p q : Int) : Int := if sgB a b c d = true ∧ ptB p q = true then neD a b c d p q else 0
def npC (a b c d p q : Int) : Int := if sgB a b c d = true ∧ ptB p q = true then 0 else 1

theorem np_done {n : Nat} {w F : World} {tmps : Array Value} {x y z : Int} {x' y' z' : Int} (B : Box F n [.int .i64 x, .int .i64 y]) (hC : Ext w F) (ha : tmps[4]? = some (.pointer (some ⟨n, 0, none⟩))) (hz : tmps[5]? = some (.int .i64 z)) (h : x' = x) (g : y' = y) (k : z' = z) :
    bodyPost Try.prog Try.f24 (fun e w' => e = .returned (.tuple #[Pt x' y', .int .i64 z']) ∧ Ext w w') Exit.ret ⟨tmps, []⟩ F := by
  obtain ⟨⟨g0, g1⟩, _⟩ := B.two
  subst h g k
  exact bodyPost_ret (v := .tuple #[Pt x' y', .int .i64 z']) (by simp [results, Try.results24, go_sem, ha, hz, g0, g1]) rfl ⟨rfl, hC⟩

theorem nearestPlace_impl (a b c d p q : Int) (w : World) :
    Calls Try.prog 24 #[Sg a b c d, Pt p q] w fun e w' => e = .returned (.tuple #[Pt (npN a b c d p q) (npD a b c d p q), .int .i64 (npC a b c d p q)]) ∧ Ext w w' := by
  cases h1 : sgB a b c d
  · have HN := Lib.hid (show npN a b c d p q = 0 from if_neg (by simp [h1]))
    have HD := Lib.hid (show npD a b c d p q = 0 from if_neg (by simp [h1]))
    have HC := Lib.hid (show npC a b c d p q = 1 from if_neg (by simp [h1]))
    obtain ⟨⟨i0, i1, i2, i3⟩, _⟩ := (((Box.new4 (w := w) (n := w.heap.size) (x := .int .i64 a) (y := .int .i64 b) (z := .int .i64 c) (u := .int .i64 d) (t := 27) rfl).alloc (.cells #[.int .i64 p, .int .i64 q] 25)).alloc (.cells #[.int .i64 0, .int .i64 0] 33)).four
    obtain ⟨⟨j0, j1⟩, _⟩ := ((Box.new2 (w := w.alloc (.cells #[.int .i64 a, .int .i64 b, .int .i64 c, .int .i64 d] 27)) (n := w.heap.size + 1) (x := .int .i64 p) (y := .int .i64 q) (t := 25) (by simp)).alloc (.cells #[.int .i64 0, .int .i64 0] 33)).two
    have B := Box.new2 (w := (w.alloc (.cells #[.int .i64 a, .int .i64 b, .int .i64 c, .int .i64 d] 27)).alloc (.cells #[.int .i64 p, .int .i64 q] 25)) (n := w.heap.size + 1 + 1) (x := .int .i64 0) (y := .int .i64 0) (t := 33) (by simp)
    obtain ⟨⟨b0, b1⟩, f0, f1⟩ := B.two
    replace B := Lib.hid B
    have hx := (((Ext.refl w).alloc (.cells #[.int .i64 a, .int .i64 b, .int .i64 c, .int .i64 d] 27)).alloc (.cells #[.int .i64 p, .int .i64 q] 25)).alloc (.cells #[.int .i64 0, .int .i64 0] 33)
    go_enter Try.func24, Try.ntmps24
    go_wp2_with (first | (go_at_call 47; refine (sgValid_any _ _ _ _ _).mono ?_; rintro e w1 ⟨rfl, hy⟩; replace i0 := hy.cellOf i0; replace i1 := hy.cellOf i1; replace i2 := hy.cellOf i2; replace i3 := hy.cellOf i3; replace j0 := hy.cellOf j0; replace j1 := hy.cellOf j1; replace f0 := hy.thawOf b0 f0; replace f1 := hy.thawOf b1 f1; replace b0 := hy.cellOf b0; replace b1 := hy.cellOf b1; replace B := Lib.hid (B.out.ext hy); replace hx := hx.trans hy; clear hy) | (go_at_call 59; refine (isValid_any _ _ _).mono ?_; rintro e w1 ⟨rfl, hy⟩; replace i0 := hy.cellOf i0; replace i1 := hy.cellOf i1; replace i2 := hy.cellOf i2; replace i3 := hy.cellOf i3; replace j0 := hy.cellOf j0; replace j1 := hy.cellOf j1; replace f0 := hy.thawOf b0 f0; replace f1 := hy.thawOf b1 f1; replace b0 := hy.cellOf b0; replace b1 := hy.cellOf b1; replace B := Lib.hid (B.out.ext hy); replace hx := hx.trans hy; clear hy))
    exact np_done (n := w.heap.size + 1 + 1) (B.out.set2 (u := .int .i64 0) (v := .int .i64 0)) (by repeat (first | exact hx | (refine Ext.setNew ?_ (by simp; omega) _))) rfl rfl HN.out HD.out HC.out
  cases h2 : ptB p q
  · have HN := Lib.hid (show npN a b c d p q = 0 from if_neg (by simp [h2]))
    have HD := Lib.hid (show npD a b c d p q = 0 from if_neg (by simp [h2]))
    have HC := Lib.hid (show npC a b c d p q = 1 from if_neg (by simp [h2]))
    obtain ⟨⟨i0, i1, i2, i3⟩, _⟩ := (((Box.new4 (w := w) (n := w.heap.size) (x := .int .i64 a) (y := .int .i64 b) (z := .int .i64 c) (u := .int .i64 d) (t := 27) rfl).alloc (.cells #[.int .i64 p, .int .i64 q] 25)).alloc (.cells #[.int .i64 0, .int .i64 0] 33)).four
    obtain ⟨⟨j0, j1⟩, _⟩ := ((Box.new2 (w := w.alloc (.cells #[.int .i64 a, .int .i64 b, .int .i64 c, .int .i64 d] 27)) (n := w.heap.size + 1) (x := .int .i64 p) (y := .int .i64 q) (t := 25) (by simp)).alloc (.cells #[.int .i64 0, .int .i64 0] 33)).two
    have B := Box.new2 (w := (w.alloc (.cells #[.int .i64 a, .int .i64 b, .int .i64 c, .int .i64 d] 27)).alloc (.cells #[.int .i64 p, .int .i64 q] 25)) (n := w.heap.size + 1 + 1) (x := .int .i64 0) (y := .int .i64 0) (t := 33) (by simp)
    obtain ⟨⟨b0, b1⟩, f0, f1⟩ := B.two
    replace B := Lib.hid B
    have hx := (((Ext.refl w).alloc (.cells #[.int .i64 a, .int .i64 b, .int .i64 c, .int .i64 d] 27)).alloc (.cells #[.int .i64 p, .int .i64 q] 25)).alloc (.cells #[.int .i64 0, .int .i64 0] 33)
    go_enter Try.func24, Try.ntmps24
    go_wp2_with (first | (go_at_call 47; refine (sgValid_any _ _ _ _ _).mono ?_; rintro e w1 ⟨rfl, hy⟩; replace i0 := hy.cellOf i0; replace i1 := hy.cellOf i1; replace i2 := hy.cellOf i2; replace i3 := hy.cellOf i3; replace j0 := hy.cellOf j0; replace j1 := hy.cellOf j1; replace f0 := hy.thawOf b0 f0; replace f1 := hy.thawOf b1 f1; replace b0 := hy.cellOf b0; replace b1 := hy.cellOf b1; replace B := Lib.hid (B.out.ext hy); replace hx := hx.trans hy; clear hy) | (go_at_call 59; refine (isValid_any _ _ _).mono ?_; rintro e w1 ⟨rfl, hy⟩; replace i0 := hy.cellOf i0; replace i1 := hy.cellOf i1; replace i2 := hy.cellOf i2; replace i3 := hy.cellOf i3; replace j0 := hy.cellOf j0; replace j1 := hy.cellOf j1; replace f0 := hy.thawOf b0 f0; replace f1 := hy.thawOf b1 f1; replace b0 := hy.cellOf b0; replace b1 := hy.cellOf b1; replace B := Lib.hid (B.out.ext hy); replace hx := hx.trans hy; clear hy))
    exact np_done (n := w.heap.size + 1 + 1) (B.out.set2 (u := .int .i64 0) (v := .int .i64 0)) (by repeat (first | exact hx | (refine Ext.setNew ?_ (by simp; omega) _))) rfl rfl HN.out HD.out HC.out
  · have HN := Lib.hid (show npN a b c d p q = neN a b c d p q from if_pos ⟨h1, h2⟩)
    have HD := Lib.hid (show npD a b c d p q = neD a b c d p q from if_pos ⟨h1, h2⟩)
    have HC := Lib.hid (show npC a b c d p q = 0 from if_pos ⟨h1, h2⟩)
    obtain ⟨⟨ha, hb, hc, hd⟩, hne⟩ := sgB_yes h1
    obtain ⟨hp, hq⟩ := ptB_yes h2
    replace hne := Lib.hid hne
    obtain ⟨⟨i0, i1, i2, i3⟩, _⟩ := (((Box.new4 (w := w) (n := w.heap.size) (x := .int .i64 a) (y := .int .i64 b) (z := .int .i64 c) (u := .int .i64 d) (t := 27) rfl).alloc (.cells #[.int .i64 p, .int .i64 q] 25)).alloc (.cells #[.int .i64 0, .int .i64 0] 33)).four
    obtain ⟨⟨j0, j1⟩, _⟩ := ((Box.new2 (w := w.alloc (.cells #[.int .i64 a, .int .i64 b, .int .i64 c, .int .i64 d] 27)) (n := w.heap.size + 1) (x := .int .i64 p) (y := .int .i64 q) (t := 25) (by simp)).alloc (.cells #[.int .i64 0, .int .i64 0] 33)).two
    have B := Box.new2 (w := (w.alloc (.cells #[.int .i64 a, .int .i64 b, .int .i64 c, .int .i64 d] 27)).alloc (.cells #[.int .i64 p, .int .i64 q] 25)) (n := w.heap.size + 1 + 1) (x := .int .i64 0) (y := .int .i64 0) (t := 33) (by simp)
    obtain ⟨⟨b0, b1⟩, f0, f1⟩ := B.two
    replace B := Lib.hid B
    have hx := (((Ext.refl w).alloc (.cells #[.int .i64 a, .int .i64 b, .int .i64 c, .int .i64 d] 27)).alloc (.cells #[.int .i64 p, .int .i64 q] 25)).alloc (.cells #[.int .i64 0, .int .i64 0] 33)
    go_enter Try.func24, Try.ntmps24
    go_wp2_with (first | (go_at_call 47; refine (sgValid_any _ _ _ _ _).mono ?_; rintro e w1 ⟨rfl, hy⟩; replace i0 := hy.cellOf i0; replace i1 := hy.cellOf i1; replace i2 := hy.cellOf i2; replace i3 := hy.cellOf i3; replace j0 := hy.cellOf j0; replace j1 := hy.cellOf j1; replace f0 := hy.thawOf b0 f0; replace f1 := hy.thawOf b1 f1; replace b0 := hy.cellOf b0; replace b1 := hy.cellOf b1; replace B := Lib.hid (B.out.ext hy); replace hx := hx.trans hy; clear hy) | (go_at_call 59; refine (isValid_any _ _ _).mono ?_; rintro e w1 ⟨rfl, hy⟩; replace i0 := hy.cellOf i0; replace i1 := hy.cellOf i1; replace i2 := hy.cellOf i2; replace i3 := hy.cellOf i3; replace j0 := hy.cellOf j0; replace j1 := hy.cellOf j1; replace f0 := hy.thawOf b0 f0; replace f1 := hy.thawOf b1 f1; replace b0 := hy.cellOf b0; replace b1 := hy.cellOf b1; replace B := Lib.hid (B.out.ext hy); replace hx := hx.trans hy; clear hy) | (go_at_call 60; refine (nearestPlace_any _ _ _ _ _ _ _ ha hb hc hd hp hq hne.out).mono ?_; rintro e w1 ⟨rfl, hy⟩; replace i0 := hy.cellOf i0; replace i1 := hy.cellOf i1; replace i2 := hy.cellOf i2; replace i3 := hy.cellOf i3; replace j0 := hy.cellOf j0; replace j1 := hy.cellOf j1; replace f0 := hy.thawOf b0 f0; replace f1 := hy.thawOf b1 f1; replace b0 := hy.cellOf b0; replace b1 := hy.cellOf b1; replace B := Lib.hid (B.out.ext hy); replace hx := hx.trans hy; clear hy))
    exact np_done (n := w.heap.size + 1 + 1) B.out.set2 (by repeat (first | exact hx | (refine Ext.setNew ?_ (by simp; omega) _))) rfl rfl HN.out HD.out HC.out

theorem nq_done {n : Nat} {w F : World} {tmps : Array Value} {x y z : Int} {x' y' z' : Int} (B : Box F n [.int .i64 x, .int .i64 y]) (hC : Ext w F) (ha : tmps[4]? = some (.pointer (some ⟨n, 0, none⟩))) (hz : tmps[5]? = some (.int .i64 z)) (h : x' = x) (g : y' = y) (k : z' = z) :
    bodyPost Try.prog Try.f41 (fun e w' => e = .returned (.tuple #[Pt x' y', .int .i64 z']) ∧ Ext w w') Exit.ret ⟨tmps, []⟩ F := by
  obtain ⟨⟨g0, g1⟩, _⟩ := B.two
  subst h g k
  exact bodyPost_ret (v := .tuple #[Pt x' y', .int .i64 z']) (by simp [results, Try.results41, go_sem, ha, hz, g0, g1]) rfl ⟨rfl, hC⟩

theorem nearestPlace_spec (a b c d p q : Int) (w : World) :
    Calls Try.prog 41 #[Sg a b c d, Pt p q] w fun e w' => e = .returned (.tuple #[Pt (npN a b c d p q) (npD a b c d p q), .int .i64 (npC a b c d p q)]) ∧ Ext w w' := by
  cases h1 : sgB a b c d
  · have HN := Lib.hid (show npN a b c d p q = 0 from if_neg (by simp [h1]))
    have HD := Lib.hid (show npD a b c d p q = 0 from if_neg (by simp [h1]))
    have HC := Lib.hid (show npC a b c d p q = 1 from if_neg (by simp [h1]))
    obtain ⟨⟨i0, i1, i2, i3⟩, _⟩ := (((Box.new4 (w := w) (n := w.heap.size) (x := .int .i64 a) (y := .int .i64 b) (z := .int .i64 c) (u := .int .i64 d) (t := 27) rfl).alloc (.cells #[.int .i64 p, .int .i64 q] 25)).alloc (.cells #[.int .i64 0, .int .i64 0] 33)).four
    obtain ⟨⟨j0, j1⟩, _⟩ := ((Box.new2 (w := w.alloc (.cells #[.int .i64 a, .int .i64 b, .int .i64 c, .int .i64 d] 27)) (n := w.heap.size + 1) (x := .int .i64 p) (y := .int .i64 q) (t := 25) (by simp)).alloc (.cells #[.int .i64 0, .int .i64 0] 33)).two
    have B := Box.new2 (w := (w.alloc (.cells #[.int .i64 a, .int .i64 b, .int .i64 c, .int .i64 d] 27)).alloc (.cells #[.int .i64 p, .int .i64 q] 25)) (n := w.heap.size + 1 + 1) (x := .int .i64 0) (y := .int .i64 0) (t := 33) (by simp)
    obtain ⟨⟨b0, b1⟩, f0, f1⟩ := B.two
    replace B := Lib.hid B
    have hx := (((Ext.refl w).alloc (.cells #[.int .i64 a, .int .i64 b, .int .i64 c, .int .i64 d] 27)).alloc (.cells #[.int .i64 p, .int .i64 q] 25)).alloc (.cells #[.int .i64 0, .int .i64 0] 33)
    go_enter Try.func41, Try.ntmps41
    go_wp2_with (first | (go_at_call 33; refine (isSegment_spec _ _ _ _ _).mono ?_; rintro e w1 ⟨rfl, hy⟩; replace i0 := hy.cellOf i0; replace i1 := hy.cellOf i1; replace i2 := hy.cellOf i2; replace i3 := hy.cellOf i3; replace j0 := hy.cellOf j0; replace j1 := hy.cellOf j1; replace f0 := hy.thawOf b0 f0; replace f1 := hy.thawOf b1 f1; replace b0 := hy.cellOf b0; replace b1 := hy.cellOf b1; replace B := Lib.hid (B.out.ext hy); replace hx := hx.trans hy; clear hy) | (go_at_call 63; refine (isPoint_spec _ _ _).mono ?_; rintro e w1 ⟨rfl, hy⟩; replace i0 := hy.cellOf i0; replace i1 := hy.cellOf i1; replace i2 := hy.cellOf i2; replace i3 := hy.cellOf i3; replace j0 := hy.cellOf j0; replace j1 := hy.cellOf j1; replace f0 := hy.thawOf b0 f0; replace f1 := hy.thawOf b1 f1; replace b0 := hy.cellOf b0; replace b1 := hy.cellOf b1; replace B := Lib.hid (B.out.ext hy); replace hx := hx.trans hy; clear hy))
    exact nq_done (n := w.heap.size + 1 + 1) (B.out.set2 (u := .int .i64 0) (v := .int .i64 0)) (by repeat (first | exact hx | (refine Ext.setNew ?_ (by simp; omega) _))) rfl rfl HN.out HD.out HC.out
  cases h2 : ptB p q
  · have HN := Lib.hid (show npN a b c d p q = 0 from if_neg (by simp [h2]))
    have HD := Lib.hid (show npD a b c d p q = 0 from if_neg (by simp [h2]))
    have HC := Lib.hid (show npC a b c d p q = 1 from if_neg (by simp [h2]))
    obtain ⟨⟨i0, i1, i2, i3⟩, _⟩ := (((Box.new4 (w := w) (n := w.heap.size) (x := .int .i64 a) (y := .int .i64 b) (z := .int .i64 c) (u := .int .i64 d) (t := 27) rfl).alloc (.cells #[.int .i64 p, .int .i64 q] 25)).alloc (.cells #[.int .i64 0, .int .i64 0] 33)).four
    obtain ⟨⟨j0, j1⟩, _⟩ := ((Box.new2 (w := w.alloc (.cells #[.int .i64 a, .int .i64 b, .int .i64 c, .int .i64 d] 27)) (n := w.heap.size + 1) (x := .int .i64 p) (y := .int .i64 q) (t := 25) (by simp)).alloc (.cells #[.int .i64 0, .int .i64 0] 33)).two
    have B := Box.new2 (w := (w.alloc (.cells #[.int .i64 a, .int .i64 b, .int .i64 c, .int .i64 d] 27)).alloc (.cells #[.int .i64 p, .int .i64 q] 25)) (n := w.heap.size + 1 + 1) (x := .int .i64 0) (y := .int .i64 0) (t := 33) (by simp)
    obtain ⟨⟨b0, b1⟩, f0, f1⟩ := B.two
    replace B := Lib.hid B
    have hx := (((Ext.refl w).alloc (.cells #[.int .i64 a, .int .i64 b, .int .i64 c, .int .i64 d] 27)).alloc (.cells #[.int .i64 p, .int .i64 q] 25)).alloc (.cells #[.int .i64 0, .int .i64 0] 33)
    go_enter Try.func41, Try.ntmps41
    go_wp2_with (first | (go_at_call 33; refine (isSegment_spec _ _ _ _ _).mono ?_; rintro e w1 ⟨rfl, hy⟩; replace i0 := hy.cellOf i0; replace i1 := hy.cellOf i1; replace i2 := hy.cellOf i2; replace i3 := hy.cellOf i3; replace j0 := hy.cellOf j0; replace j1 := hy.cellOf j1; replace f0 := hy.thawOf b0 f0; replace f1 := hy.thawOf b1 f1; replace b0 := hy.cellOf b0; replace b1 := hy.cellOf b1; replace B := Lib.hid (B.out.ext hy); replace hx := hx.trans hy; clear hy) | (go_at_call 63; refine (isPoint_spec _ _ _).mono ?_; rintro e w1 ⟨rfl, hy⟩; replace i0 := hy.cellOf i0; replace i1 := hy.cellOf i1; replace i2 := hy.cellOf i2; replace i3 := hy.cellOf i3; replace j0 := hy.cellOf j0; replace j1 := hy.cellOf j1; replace f0 := hy.thawOf b0 f0; replace f1 := hy.thawOf b1 f1; replace b0 := hy.cellOf b0; replace b1 := hy.cellOf b1; replace B := Lib.hid (B.out.ext hy); replace hx := hx.trans hy; clear hy))
    exact nq_done (n := w.heap.size + 1 + 1) (B.out.set2 (u := .int .i64 0) (v := .int .i64 0)) (by repeat (first | exact hx | (refine Ext.setNew ?_ (by simp; omega) _))) rfl rfl HN.out HD.out HC.out
  · have HN := Lib.hid (show npN a b c d p q = neN a b c d p q from if_pos ⟨h1, h2⟩)
    have HD := Lib.hid (show npD a b c d p q = neD a b c d p q from if_pos ⟨h1, h2⟩)
    have HC := Lib.hid (show npC a b c d p q = 0 from if_pos ⟨h1, h2⟩)
    obtain ⟨⟨ha, hb, hc, hd⟩, hne⟩ := sgB_yes h1
    obtain ⟨hp, hq⟩ := ptB_yes h2
    replace hne := Lib.hid hne
    obtain ⟨⟨i0, i1, i2, i3⟩, _⟩ := (((Box.new4 (w := w) (n := w.heap.size) (x := .int .i64 a) (y := .int .i64 b) (z := .int .i64 c) (u := .int .i64 d) (t := 27) rfl).alloc (.cells #[.int .i64 p, .int .i64 q] 25)).alloc (.cells #[.int .i64 0, .int .i64 0] 33)).four
    obtain ⟨⟨j0, j1⟩, _⟩ := ((Box.new2 (w := w.alloc (.cells #[.int .i64 a, .int .i64 b, .int .i64 c, .int .i64 d] 27)) (n := w.heap.size + 1) (x := .int .i64 p) (y := .int .i64 q) (t := 25) (by simp)).alloc (.cells #[.int .i64 0, .int .i64 0] 33)).two
    have B := Box.new2 (w := (w.alloc (.cells #[.int .i64 a, .int .i64 b, .int .i64 c, .int .i64 d] 27)).alloc (.cells #[.int .i64 p, .int .i64 q] 25)) (n := w.heap.size + 1 + 1) (x := .int .i64 0) (y := .int .i64 0) (t := 33) (by simp)
    obtain ⟨⟨b0, b1⟩, f0, f1⟩ := B.two
    replace B := Lib.hid B
    have hx := (((Ext.refl w).alloc (.cells #[.int .i64 a, .int .i64 b, .int .i64 c, .int .i64 d] 27)).alloc (.cells #[.int .i64 p, .int .i64 q] 25)).alloc (.cells #[.int .i64 0, .int .i64 0] 33)
    go_enter Try.func41, Try.ntmps41
    go_wp2_with (first | (go_at_call 33; refine (isSegment_spec _ _ _ _ _).mono ?_; rintro e w1 ⟨rfl, hy⟩; replace i0 := hy.cellOf i0; replace i1 := hy.cellOf i1; replace i2 := hy.cellOf i2; replace i3 := hy.cellOf i3; replace j0 := hy.cellOf j0; replace j1 := hy.cellOf j1; replace f0 := hy.thawOf b0 f0; replace f1 := hy.thawOf b1 f1; replace b0 := hy.cellOf b0; replace b1 := hy.cellOf b1; replace B := Lib.hid (B.out.ext hy); replace hx := hx.trans hy; clear hy) | (go_at_call 63; refine (isPoint_spec _ _ _).mono ?_; rintro e w1 ⟨rfl, hy⟩; replace i0 := hy.cellOf i0; replace i1 := hy.cellOf i1; replace i2 := hy.cellOf i2; replace i3 := hy.cellOf i3; replace j0 := hy.cellOf j0; replace j1 := hy.cellOf j1; replace f0 := hy.thawOf b0 f0; replace f1 := hy.thawOf b1 f1; replace b0 := hy.cellOf b0; replace b1 := hy.cellOf b1; replace B := Lib.hid (B.out.ext hy); replace hx := hx.trans hy; clear hy) | (go_at_call 71; refine (nearestS_any _ _ _ _ _ _ _ ha hb hc hd hp hq hne.out).mono ?_; rintro e w1 ⟨rfl, hy⟩; replace i0 := hy.cellOf i0; replace i1 := hy.cellOf i1; replace i2 := hy.cellOf i2; replace i3 := hy.cellOf i3; replace j0 := hy.cellOf j0; replace j1 := hy.cellOf j1; replace f0 := hy.thawOf b0 f0; replace f1 := hy.thawOf b1 f1; replace b0 := hy.cellOf b0; replace b1 := hy.cellOf b1; replace B := Lib.hid (B.out.ext hy); replace hx := hx.trans hy; clear hy))
    exact nq_done (n := w.heap.size + 1 + 1) B.out.set2 (by repeat (first | exact hx | (refine Ext.setNew ?_ (by simp; omega) _))) rfl rfl HN.out HD.out HC.out

end Go.Proofs.Ytcdbnbfhohidnaa.Gcd
