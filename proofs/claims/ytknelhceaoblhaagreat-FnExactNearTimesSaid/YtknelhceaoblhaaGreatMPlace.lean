import Derived.Test.YtknelhceaoblhaaGreatMPts
import Derived.Test.YtknelhceaoblhaaGreatRel
namespace Go.Proofs.YtknelhceaoblhaaGreat.Gcd
open Go.ChangeShapes Go.WideShapes Go.ChangeAt Go.RowKit
open Go.Proofs.YtknelhceaoblhaaGreat.Num Go.Proofs.YtknelhceaoblhaaGreat.Kit Go.Proofs.YtknelhceaoblhaaGreat.Pts Go.Proofs.YtknelhceaoblhaaGreat.Seg
set_option linter.unusedVariables false
set_option linter.unusedSimpArgs false
theorem crs_bd {a b c d p q : Int} (ha : Co a) (hb : Co b) (hc : Co c) (hd : Co d) (hp : Co p) (hq : Co q) : -8000000000000 ≤ crs a b c d p q ∧ crs a b c d p q ≤ 8000000000000 := by
  obtain ⟨a1, a2⟩ := mul_bd (x := c - a) (y := q - b) 2000000 2000000 (by omega) (by omega)
  obtain ⟨b1, b2⟩ := mul_bd (x := d - b) (y := p - a) 2000000 2000000 (by omega) (by omega)
  simp only [Int.reduceMul, Int.reduceNeg] at a1 a2 b1 b2
  unfold crs; omega
theorem ab_bd {n M : Int} (h1 : -M ≤ n) (h2 : n ≤ M) : 0 ≤ ab n ∧ ab n ≤ M := by
  unfold ab; by_cases h : n < 0
  · rw [if_pos h]; omega
  · rw [if_neg h]; omega
end Go.Proofs.YtknelhceaoblhaaGreat.Gcd
namespace Go.Proofs.YtknelhceaoblhaaGreat.Gcd
open Go.ChangeShapes Go.WideShapes Go.ChangeAt Go.RowKit
open Go.Proofs.YtknelhceaoblhaaGreat.Num Go.Proofs.YtknelhceaoblhaaGreat.Kit Go.Proofs.YtknelhceaoblhaaGreat.Pts Go.Proofs.YtknelhceaoblhaaGreat.Seg
set_option linter.unusedVariables false
set_option linter.unusedSimpArgs false
def sqL (a b c d : Int) : Int := (c - a) * (c - a) + (d - b) * (d - b)
def alg (a b c d p q : Int) : Int := (c - a) * (p - a) + (d - b) * (q - b)
def cl (n m : Int) : Int := if n < 0 then 0 else if m < n then m else n
theorem sqn (a : Int) : 0 ≤ a * a := by
  rcases Int.le_total 0 a with h | h
  · exact Int.mul_nonneg h h
  · exact Int.mul_nonneg_of_nonpos_of_nonpos h h
theorem sqL_bd {a b c d : Int} (ha : Co a) (hb : Co b) (hc : Co c) (hd : Co d) (hne : ¬ (a = c ∧ b = d)) : 1 ≤ sqL a b c d ∧ sqL a b c d ≤ 8000000000000 := by
  obtain ⟨a1, a2⟩ := mul_bd (x := c - a) (y := c - a) 2000000 2000000 (by omega) (by omega)
  obtain ⟨b1, b2⟩ := mul_bd (x := d - b) (y := d - b) 2000000 2000000 (by omega) (by omega)
  simp only [Int.reduceMul, Int.reduceNeg] at a1 a2 b1 b2
  have s1 := sqn (c - a)
  have s2 := sqn (d - b)
  unfold sqL
  refine ⟨?_, by omega⟩
  rcases Int.lt_or_le 0 ((c - a) * (c - a) + (d - b) * (d - b)) with h | h
  · omega
  · exfalso
    have e1 : (c - a) * (c - a) = 0 := by omega
    have e2 : (d - b) * (d - b) = 0 := by omega
    have f1 : c - a = 0 := by rcases Int.mul_eq_zero.1 e1 with h | h <;> exact h
    have f2 : d - b = 0 := by rcases Int.mul_eq_zero.1 e2 with h | h <;> exact h
    exact hne ⟨by omega, by omega⟩
theorem alg_bd {a b c d p q : Int} (ha : Co a) (hb : Co b) (hc : Co c) (hd : Co d) (hp : Co p) (hq : Co q) : -8000000000000 ≤ alg a b c d p q ∧ alg a b c d p q ≤ 8000000000000 := by
  obtain ⟨a1, a2⟩ := mul_bd (x := c - a) (y := p - a) 2000000 2000000 (by omega) (by omega)
  obtain ⟨b1, b2⟩ := mul_bd (x := d - b) (y := q - b) 2000000 2000000 (by omega) (by omega)
  simp only [Int.reduceMul, Int.reduceNeg] at a1 a2 b1 b2
  unfold alg; omega
def neK (a b c d p q : Int) : Int := cl (alg a b c d p q) (sqL a b c d)
def neN (a b c d p q : Int) : Int := neK a b c d p q / gc (neK a b c d p q) (sqL a b c d)
def neD (a b c d p q : Int) : Int := sqL a b c d / gc (neK a b c d p q) (sqL a b c d)
theorem ni_done {n : Nat} {w F : World} {tmps : Array Value} {x y x' y' : Int} (B : Box F n [.int .i64 x, .int .i64 y]) (hC : Ext w F) (ha : tmps[4]? = some (.pointer (some ⟨n, 0, none⟩))) (h : x' = x) (g : y' = y) :
    bodyPost Tryz.prog Tryz.f185 (fun e w' => e = .returned (Pt x' y') ∧ Ext w w') Exit.ret ⟨tmps, []⟩ F := by
  obtain ⟨⟨g0, g1⟩, _⟩ := B.two
  subst h g
  exact bodyPost_ret (v := Pt x' y') (by simp [results, Tryz.results185, go_sem, ha, g0, g1]) rfl ⟨rfl, hC⟩
set_option maxHeartbeats 1000000 in
theorem nearestPlace_any (a b c d p q : Int) (w : World) (ha : Co a) (hb : Co b) (hc : Co c) (hd : Co d) (hp : Co p) (hq : Co q) (hne : ¬ (a = c ∧ b = d)) :
    Calls Tryz.prog 185 #[Sg a b c d, Pt p q] w fun e w' => e = .returned (Pt (neN a b c d p q) (neD a b c d p q)) ∧ Ext w w' := by
  obtain ⟨M1, M2⟩ := sqL_bd ha hb hc hd hne
  obtain ⟨N1, N2⟩ := alg_bd ha hb hc hd hp hq
  have HN := Lib.hid (show neN a b c d p q = cl (alg a b c d p q) (sqL a b c d) / gc (cl (alg a b c d p q) (sqL a b c d)) (sqL a b c d) from rfl)
  have HD := Lib.hid (show neD a b c d p q = sqL a b c d / gc (cl (alg a b c d p q) (sqL a b c d)) (sqL a b c d) from rfl)
  clear hne
  have B0 := ((Box.new4 (w := w) (n := w.heap.size) (x := .int .i64 a) (y := .int .i64 b) (z := .int .i64 c) (u := .int .i64 d) (t := 144) rfl).alloc (.cells #[.int .i64 p, .int .i64 q] 113)).alloc (.cells #[.int .i64 0, .int .i64 0] 175)
  have B1 := (Box.new2 (w := w.alloc (.cells #[.int .i64 a, .int .i64 b, .int .i64 c, .int .i64 d] 144)) (n := w.heap.size + 1) (x := .int .i64 p) (y := .int .i64 q) (t := 113) (by simp)).alloc (.cells #[.int .i64 0, .int .i64 0] 175)
  have B2 := Box.new2 (w := (w.alloc (.cells #[.int .i64 a, .int .i64 b, .int .i64 c, .int .i64 d] 144)).alloc (.cells #[.int .i64 p, .int .i64 q] 113)) (n := w.heap.size + 1 + 1) (x := .int .i64 0) (y := .int .i64 0) (t := 175) (by simp)
  have hx := (((Ext.refl w).alloc (.cells #[.int .i64 a, .int .i64 b, .int .i64 c, .int .i64 d] 144)).alloc (.cells #[.int .i64 p, .int .i64 q] 113)).alloc (.cells #[.int .i64 0, .int .i64 0] 175)
  obtain ⟨⟨i0, i1, i2, i3⟩, _⟩ := B0.four
  go_enter Tryz.func185, Tryz.ntmps185
  go_wp2_with fail
  go_at_call 160
  refine (vector_any _ _ _ _ _ ha hb hc hd).mono ?_
  rintro e w1 ⟨rfl, hy⟩
  replace B0 := Lib.hid (B0.ext hy)
  replace B1 := Lib.hid (B1.ext hy)
  replace B2 := Lib.hid (B2.ext hy)
  replace hx := hx.trans hy
  clear hy i0 i1 i2 i3
  have B3 := Lib.hid (Box.new2 (w := w1) (n := w1.heap.size) (x := .int .i64 (c - a)) (y := .int .i64 (d - b)) (t := 113) rfl)
  obtain ⟨⟨j0, j1⟩, _⟩ := B3.out.two
  go_wp2_with fail
  go_at_call 186
  refine (squareLength_any _ _ _ (by omega) (by omega)).mono ?_
  rintro e w2 ⟨rfl, hy⟩
  clear j0 j1
  replace B0 := Lib.hid ((B0.out.alloc _).ext hy)
  replace B1 := Lib.hid ((B1.out.alloc _).ext hy)
  replace B2 := Lib.hid ((B2.out.alloc _).ext hy)
  replace B3 := Lib.hid (B3.out.ext hy)
  replace hx := (hx.alloc _).trans hy
  clear hy
  go_wp2_with fail
  have e0 : ∀ w', Ext (w2) w' → w'.cell? ⟨w.heap.size, 0, none⟩ = some (.int .i64 a) := fun w' h => h.cellOf (B0.out 0 _ rfl).1
  have e1 : ∀ w', Ext (w2) w' → w'.cell? ⟨w.heap.size, 1, none⟩ = some (.int .i64 b) := fun w' h => h.cellOf (B0.out 1 _ rfl).1
  have e2 : ∀ w', Ext (w2) w' → w'.cell? ⟨w.heap.size, 2, none⟩ = some (.int .i64 c) := fun w' h => h.cellOf (B0.out 2 _ rfl).1
  have e3 : ∀ w', Ext (w2) w' → w'.cell? ⟨w.heap.size, 3, none⟩ = some (.int .i64 d) := fun w' h => h.cellOf (B0.out 3 _ rfl).1
  have e4 : ∀ w', Ext (w2) w' → w'.cell? ⟨w.heap.size + 1, 0, none⟩ = some (.int .i64 p) := fun w' h => h.cellOf (B1.out 0 _ rfl).1
  have e5 : ∀ w', Ext (w2) w' → w'.cell? ⟨w.heap.size + 1, 1, none⟩ = some (.int .i64 q) := fun w' h => h.cellOf (B1.out 1 _ rfl).1
  have e6 : ∀ w', Ext (w2) w' → w'.cell? ⟨w1.heap.size, 0, none⟩ = some (.int .i64 (c - a)) := fun w' h => h.cellOf (B3.out 0 _ rfl).1
  have e7 : ∀ w', Ext (w2) w' → w'.cell? ⟨w1.heap.size, 1, none⟩ = some (.int .i64 (d - b)) := fun w' h => h.cellOf (B3.out 1 _ rfl).1
  go_region_held3 (fun w' => Ext (w2) w')
    (first | exact (Ext.refl _).drew | exact Ext.trans (by assumption) hy)
    (first | (go_at_call 180; refine (vectorTo_any _ _ _ _ _ ha hb hp hq).mono ?_; rintro e w3 ⟨rfl, hy⟩) | (go_at_call 204; refine (dotI_any _ _ _ _ _ (by omega) (by omega) (by omega) (by omega)).mono ?_; rintro e w3 ⟨rfl, hy⟩))
  clear e0 e1 e2 e3 e4 e5 e6 e7 hy
  rename_i hy
  replace B0 := Lib.hid (B0.out.ext hy)
  replace B1 := Lib.hid (B1.out.ext hy)
  replace B2 := Lib.hid (B2.out.ext hy)
  replace B3 := Lib.hid (B3.out.ext hy)
  replace hx := hx.trans hy
  clear hy
  obtain ⟨⟨b0, b1⟩, f0, f1⟩ := B2.out.two
  rw [show (c - a) * (c - a) + (d - b) * (d - b) = sqL a b c d from rfl, show (c - a) * (p - a) + (d - b) * (q - b) = alg a b c d p q from rfl]
  generalize hM : sqL a b c d = M at *
  generalize hA : alg a b c d p q = A at *
  clear hM hA
  by_cases g1 : A < 0
  · have hcl : cl A M = 0 := if_pos g1
    rw [hcl] at HN HD
    clear hcl
    go_wp2_with (go_at_call 205; refine (lowestTerms_any _ _ _ (by omega) (by omega) (by omega) (by omega)).mono ?_; rintro e w4 ⟨rfl, hy⟩; replace f0 := hy.thawOf b0 f0; replace f1 := hy.thawOf b1 f1; replace b0 := hy.cellOf b0; replace b1 := hy.cellOf b1; replace B2 := Lib.hid (B2.out.ext hy); replace hx := hx.trans hy; clear hy)
    all_goals exact ni_done (n := w.heap.size + 1 + 1) B2.out.set2 (by repeat (first | exact hx | (refine Ext.setNew ?_ (by simp; omega) _))) rfl (by first | exact HN.out | (rw [HN.out]; simp; done) | (rw [HN.out, show A = 0 by omega]; simp; done) | (rw [HN.out, show A = M by omega])) (by first | exact HD.out | (rw [HD.out]; simp; done) | rw [HD.out, show A = 0 by omega] | rw [HD.out, show A = M by omega])
  by_cases g2 : M < A
  · have hcl : cl A M = M := by unfold cl; rw [if_neg g1, if_pos g2]
    rw [hcl] at HN HD
    clear hcl
    go_wp2_with (go_at_call 205; refine (lowestTerms_any _ _ _ (by omega) (by omega) (by omega) (by omega)).mono ?_; rintro e w4 ⟨rfl, hy⟩; replace f0 := hy.thawOf b0 f0; replace f1 := hy.thawOf b1 f1; replace b0 := hy.cellOf b0; replace b1 := hy.cellOf b1; replace B2 := Lib.hid (B2.out.ext hy); replace hx := hx.trans hy; clear hy)
    all_goals exact ni_done (n := w.heap.size + 1 + 1) B2.out.set2 (by repeat (first | exact hx | (refine Ext.setNew ?_ (by simp; omega) _))) rfl (by first | exact HN.out | (rw [HN.out]; simp; done) | (rw [HN.out, show A = 0 by omega]; simp; done) | (rw [HN.out, show A = M by omega])) (by first | exact HD.out | (rw [HD.out]; simp; done) | rw [HD.out, show A = 0 by omega] | rw [HD.out, show A = M by omega])
  · have hcl : cl A M = A := by unfold cl; rw [if_neg g1, if_neg g2]
    rw [hcl] at HN HD
    clear hcl
    go_wp2_with (go_at_call 205; refine (lowestTerms_any _ _ _ (by omega) (by omega) (by omega) (by omega)).mono ?_; rintro e w4 ⟨rfl, hy⟩; replace f0 := hy.thawOf b0 f0; replace f1 := hy.thawOf b1 f1; replace b0 := hy.cellOf b0; replace b1 := hy.cellOf b1; replace B2 := Lib.hid (B2.out.ext hy); replace hx := hx.trans hy; clear hy)
    all_goals exact ni_done (n := w.heap.size + 1 + 1) B2.out.set2 (by repeat (first | exact hx | (refine Ext.setNew ?_ (by simp; omega) _))) rfl (by first | exact HN.out | (rw [HN.out]; simp; done) | (rw [HN.out, show A = 0 by omega]; simp; done) | (rw [HN.out, show A = M by omega])) (by first | exact HD.out | (rw [HD.out]; simp; done) | rw [HD.out, show A = 0 by omega] | rw [HD.out, show A = M by omega])
end Go.Proofs.YtknelhceaoblhaaGreat.Gcd
