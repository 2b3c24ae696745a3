/- Contracts of NearestPlace (impl, spec), for all arguments. -/
import Derived.Test.YtookaodccmlkoaaNear
namespace Go.Proofs.Ytookaodccmlkoaa.Gcd
open Go.ChangeShapes Go.WideShapes Go.ChangeAt Go.RowKit
open Go.Proofs.Ytookaodccmlkoaa.Num Go.Proofs.Ytookaodccmlkoaa.Kit Go.Proofs.Ytookaodccmlkoaa.Pts Go.Proofs.Ytookaodccmlkoaa.Seg
set_option linter.unusedVariables false
set_option linter.unusedSimpArgs false

def npN (a b c d p q : Int) : Int := if sgB a b c d = true ∧ ptB p q = true then neN a b c d p q else 0
def npD (a b c d p q : Int) : Int := if sgB a b c d = true ∧ ptB p q = true then neD a b c d p q else 0
def npC (a b c d p q : Int) : Int := if sgB a b c d = true ∧ ptB p q = true then 0 else 1

theorem np_done {n : Nat} {w F : World} {tmps : Array Value} {x y z : Int} {x' y' z' : Int} (B : Box F n [.int .i64 x, .int .i64 y]) (hC : Ext w F) (ha : tmps[4]? = some (.pointer (some ⟨n, 0, none⟩))) (hz : tmps[5]? = some (.int .i64 z)) (h : x' = x) (g : y' = y) (k : z' = z) :
    bodyPost Try.prog Try.f29 (fun e w' => e = .returned (.tuple #[Pt x' y', .int .i64 z']) ∧ Ext w w') Exit.ret ⟨tmps, []⟩ F := by
  obtain ⟨⟨g0, g1⟩, _⟩ := B.two
  subst h g k
  exact bodyPost_ret (v := .tuple #[Pt x' y', .int .i64 z']) (by simp [results, Try.results29, go_sem, ha, hz, g0, g1]) rfl ⟨rfl, hC⟩

theorem nearestPlace_impl (a b c d p q : Int) (w : World) :
    Calls Try.prog 29 #[Sg a b c d, Pt p q] w fun e w' => e = .returned (.tuple #[Pt (npN a b c d p q) (npD a b c d p q), .int .i64 (npC a b c d p q)]) ∧ Ext w w' := by
  cases h1 : sgB a b c d
  · have HN := Lib.hid (show npN a b c d p q = 0 from if_neg (by simp [h1]))
    have HD := Lib.hid (show npD a b c d p q = 0 from if_neg (by simp [h1]))
    have HC := Lib.hid (show npC a b c d p q = 1 from if_neg (by simp [h1]))
    obtain ⟨⟨i0, i1, i2, i3⟩, _⟩ := (((Box.new4 (w := w) (n := w.heap.size) (x := .int .i64 a) (y := .int .i64 b) (z := .int .i64 c) (u := .int .i64 d) (t := 59) rfl).alloc (.cells #[.int .i64 p, .int .i64 q] 25)).alloc (.cells #[.int .i64 0, .int .i64 0] 37)).four
    obtain ⟨⟨j0, j1⟩, _⟩ := ((Box.new2 (w := w.alloc (.cells #[.int .i64 a, .int .i64 b, .int .i64 c, .int .i64 d] 59)) (n := w.heap.size + 1) (x := .int .i64 p) (y := .int .i64 q) (t := 25) (by simp)).alloc (.cells #[.int .i64 0, .int .i64 0] 37)).two
    have B := Box.new2 (w := (w.alloc (.cells #[.int .i64 a, .int .i64 b, .int .i64 c, .int .i64 d] 59)).alloc (.cells #[.int .i64 p, .int .i64 q] 25)) (n := w.heap.size + 1 + 1) (x := .int .i64 0) (y := .int .i64 0) (t := 37) (by simp)
    obtain ⟨⟨b0, b1⟩, f0, f1⟩ := B.two
    replace B := Lib.hid B
    have hx := (((Ext.refl w).alloc (.cells #[.int .i64 a, .int .i64 b, .int .i64 c, .int .i64 d] 59)).alloc (.cells #[.int .i64 p, .int .i64 q] 25)).alloc (.cells #[.int .i64 0, .int .i64 0] 37)
    go_enter Try.func29, Try.ntmps29
    go_wp2_with (first | (go_at_call 66; refine (sgValid_any _ _ _ _ _).mono ?_; rintro e w1 ⟨rfl, hy⟩; replace i0 := hy.cellOf i0; replace i1 := hy.cellOf i1; replace i2 := hy.cellOf i2; replace i3 := hy.cellOf i3; replace j0 := hy.cellOf j0; replace j1 := hy.cellOf j1; replace f0 := hy.thawOf b0 f0; replace f1 := hy.thawOf b1 f1; replace b0 := hy.cellOf b0; replace b1 := hy.cellOf b1; replace B := Lib.hid (B.out.ext hy); replace hx := hx.trans hy; clear hy) | (go_at_call 44; refine (isValid_any _ _ _).mono ?_; rintro e w1 ⟨rfl, hy⟩; replace i0 := hy.cellOf i0; replace i1 := hy.cellOf i1; replace i2 := hy.cellOf i2; replace i3 := hy.cellOf i3; replace j0 := hy.cellOf j0; replace j1 := hy.cellOf j1; replace f0 := hy.thawOf b0 f0; replace f1 := hy.thawOf b1 f1; replace b0 := hy.cellOf b0; replace b1 := hy.cellOf b1; replace B := Lib.hid (B.out.ext hy); replace hx := hx.trans hy; clear hy))
    exact np_done (n := w.heap.size + 1 + 1) (B.out.set2 (u := .int .i64 0) (v := .int .i64 0)) (by repeat (first | exact hx | (refine Ext.setNew ?_ (by simp; omega) _))) rfl rfl HN.out HD.out HC.out
  cases h2 : ptB p q
  · have HN := Lib.hid (show npN a b c d p q = 0 from if_neg (by simp [h2]))
    have HD := Lib.hid (show npD a b c d p q = 0 from if_neg (by simp [h2]))
    have HC := Lib.hid (show npC a b c d p q = 1 from if_neg (by simp [h2]))
    obtain ⟨⟨i0, i1, i2, i3⟩, _⟩ := (((Box.new4 (w := w) (n := w.heap.size) (x := .int .i64 a) (y := .int .i64 b) (z := .int .i64 c) (u := .int .i64 d) (t := 59) rfl).alloc (.cells #[.int .i64 p, .int .i64 q] 25)).alloc (.cells #[.int .i64 0, .int .i64 0] 37)).four
    obtain ⟨⟨j0, j1⟩, _⟩ := ((Box.new2 (w := w.alloc (.cells #[.int .i64 a, .int .i64 b, .int .i64 c, .int .i64 d] 59)) (n := w.heap.size + 1) (x := .int .i64 p) (y := .int .i64 q) (t := 25) (by simp)).alloc (.cells #[.int .i64 0, .int .i64 0] 37)).two
    have B := Box.new2 (w := (w.alloc (.cells #[.int .i64 a, .int .i64 b, .int .i64 c, .int .i64 d] 59)).alloc (.cells #[.int .i64 p, .int .i64 q] 25)) (n := w.heap.size + 1 + 1) (x := .int .i64 0) (y := .int .i64 0) (t := 37) (by simp)
    obtain ⟨⟨b0, b1⟩, f0, f1⟩ := B.two
    replace B := Lib.hid B
    have hx := (((Ext.refl w).alloc (.cells #[.int .i64 a, .int .i64 b, .int .i64 c, .int .i64 d] 59)).alloc (.cells #[.int .i64 p, .int .i64 q] 25)).alloc (.cells #[.int .i64 0, .int .i64 0] 37)
    go_enter Try.func29, Try.ntmps29
    go_wp2_with (first | (go_at_call 66; refine (sgValid_any _ _ _ _ _).mono ?_; rintro e w1 ⟨rfl, hy⟩; replace i0 := hy.cellOf i0; replace i1 := hy.cellOf i1; replace i2 := hy.cellOf i2; replace i3 := hy.cellOf i3; replace j0 := hy.cellOf j0; replace j1 := hy.cellOf j1; replace f0 := hy.thawOf b0 f0; replace f1 := hy.thawOf b1 f1; replace b0 := hy.cellOf b0; replace b1 := hy.cellOf b1; replace B := Lib.hid (B.out.ext hy); replace hx := hx.trans hy; clear hy) | (go_at_call 44; refine (isValid_any _ _ _).mono ?_; rintro e w1 ⟨rfl, hy⟩; replace i0 := hy.cellOf i0; replace i1 := hy.cellOf i1; replace i2 := hy.cellOf i2; replace i3 := hy.cellOf i3; replace j0 := hy.cellOf j0; replace j1 := hy.cellOf j1; replace f0 := hy.thawOf b0 f0; replace f1 := hy.thawOf b1 f1; replace b0 := hy.cellOf b0; replace b1 := hy.cellOf b1; replace B := Lib.hid (B.out.ext hy); replace hx := hx.trans hy; clear hy))
    exact np_done (n := w.heap.size + 1 + 1) (B.out.set2 (u := .int .i64 0) (v := .int .i64 0)) (by repeat (first | exact hx | (refine Ext.setNew ?_ (by simp; omega) _))) rfl rfl HN.out HD.out HC.out
  · have HN := Lib.hid (show npN a b c d p q = neN a b c d p q from if_pos ⟨h1, h2⟩)
    have HD := Lib.hid (show npD a b c d p q = neD a b c d p q from if_pos ⟨h1, h2⟩)
    have HC := Lib.hid (show npC a b c d p q = 0 from if_pos ⟨h1, h2⟩)
    obtain ⟨⟨ha, hb, hc, hd⟩, hne⟩ := sgB_yes h1
    obtain ⟨hp, hq⟩ := ptB_yes h2
    replace hne := Lib.hid hne
    obtain ⟨⟨i0, i1, i2, i3⟩, _⟩ := (((Box.new4 (w := w) (n := w.heap.size) (x := .int .i64 a) (y := .int .i64 b) (z := .int .i64 c) (u := .int .i64 d) (t := 59) rfl).alloc (.cells #[.int .i64 p, .int .i64 q] 25)).alloc (.cells #[.int .i64 0, .int .i64 0] 37)).four
    obtain ⟨⟨j0, j1⟩, _⟩ := ((Box.new2 (w := w.alloc (.cells #[.int .i64 a, .int .i64 b, .int .i64 c, .int .i64 d] 59)) (n := w.heap.size + 1) (x := .int .i64 p) (y := .int .i64 q) (t := 25) (by simp)).alloc (.cells #[.int .i64 0, .int .i64 0] 37)).two
    have B := Box.new2 (w := (w.alloc (.cells #[.int .i64 a, .int .i64 b, .int .i64 c, .int .i64 d] 59)).alloc (.cells #[.int .i64 p, .int .i64 q] 25)) (n := w.heap.size + 1 + 1) (x := .int .i64 0) (y := .int .i64 0) (t := 37) (by simp)
    obtain ⟨⟨b0, b1⟩, f0, f1⟩ := B.two
    replace B := Lib.hid B
    have hx := (((Ext.refl w).alloc (.cells #[.int .i64 a, .int .i64 b, .int .i64 c, .int .i64 d] 59)).alloc (.cells #[.int .i64 p, .int .i64 q] 25)).alloc (.cells #[.int .i64 0, .int .i64 0] 37)
    go_enter Try.func29, Try.ntmps29
    go_wp2_with (first | (go_at_call 66; refine (sgValid_any _ _ _ _ _).mono ?_; rintro e w1 ⟨rfl, hy⟩; replace i0 := hy.cellOf i0; replace i1 := hy.cellOf i1; replace i2 := hy.cellOf i2; replace i3 := hy.cellOf i3; replace j0 := hy.cellOf j0; replace j1 := hy.cellOf j1; replace f0 := hy.thawOf b0 f0; replace f1 := hy.thawOf b1 f1; replace b0 := hy.cellOf b0; replace b1 := hy.cellOf b1; replace B := Lib.hid (B.out.ext hy); replace hx := hx.trans hy; clear hy) | (go_at_call 44; refine (isValid_any _ _ _).mono ?_; rintro e w1 ⟨rfl, hy⟩; replace i0 := hy.cellOf i0; replace i1 := hy.cellOf i1; replace i2 := hy.cellOf i2; replace i3 := hy.cellOf i3; replace j0 := hy.cellOf j0; replace j1 := hy.cellOf j1; replace f0 := hy.thawOf b0 f0; replace f1 := hy.thawOf b1 f1; replace b0 := hy.cellOf b0; replace b1 := hy.cellOf b1; replace B := Lib.hid (B.out.ext hy); replace hx := hx.trans hy; clear hy) | (go_at_call 72; refine (nearestPlace_any _ _ _ _ _ _ _ ha hb hc hd hp hq hne.out).mono ?_; rintro e w1 ⟨rfl, hy⟩; replace i0 := hy.cellOf i0; replace i1 := hy.cellOf i1; replace i2 := hy.cellOf i2; replace i3 := hy.cellOf i3; replace j0 := hy.cellOf j0; replace j1 := hy.cellOf j1; replace f0 := hy.thawOf b0 f0; replace f1 := hy.thawOf b1 f1; replace b0 := hy.cellOf b0; replace b1 := hy.cellOf b1; replace B := Lib.hid (B.out.ext hy); replace hx := hx.trans hy; clear hy))
    exact np_done (n := w.heap.size + 1 + 1) B.out.set2 (by repeat (first | exact hx | (refine Ext.setNew ?_ (by simp; omega) _))) rfl rfl HN.out HD.out HC.out

end Go.Proofs.Ytookaodccmlkoaa.Gcd
