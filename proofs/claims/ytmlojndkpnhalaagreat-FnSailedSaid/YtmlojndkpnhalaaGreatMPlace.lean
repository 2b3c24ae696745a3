import Derived.Test.YtmlojndkpnhalaaGreatMPts
import Derived.Test.YtmlojndkpnhalaaGreatRel
namespace Go.Proofs.YtmlojndkpnhalaaGreat.Gcd
open Go.ChangeShapes Go.WideShapes Go.ChangeAt Go.RowKit
open Go.Proofs.YtmlojndkpnhalaaGreat.Num Go.Proofs.YtmlojndkpnhalaaGreat.Kit Go.Proofs.YtmlojndkpnhalaaGreat.Pts Go.Proofs.YtmlojndkpnhalaaGreat.Seg
set_option linter.unusedVariables false
set_option linter.unusedSimpArgs false
theorem crs_bd {a b c d p q : Int} (ha : Co a) (hb : Co b) (hc : Co c) (hd : Co d) (hp : Co p) (hq : Co q) : -8000000000000 ≤ crs a b c d p q ∧ crs a b c d p q ≤ 8000000000000 := by
  obtain ⟨a1, a2⟩ := mul_bd (x := c - a) (y := q - b) 2000000 2000000 (by omega) (by omega)
  obtain ⟨b1, b2⟩ := mul_bd (x := d - b) (y := p - a) 2000000 2000000 (by omega) (by omega)
  simp only [Int.reduceMul, Int.reduceNeg] at a1 a2 b1 b2
  unfold crs; omega
theorem ab_bd {n M : Int} (h1 : -M ≤ n) (h2 : n ≤ M) : 0 ≤ ab n ∧ ab n ≤ M := by
  unfold ab; by_cases h : n < 0
  · rw [if_pos h]; omega
  · rw [if_neg h]; omega
theorem sgn_cases (n : Int) : (n < 0 ∧ sgn n = -1) ∨ (n = 0 ∧ sgn n = 0) ∨ (0 < n ∧ sgn n = 1) := by
  unfold sgn; rcases Int.lt_trichotomy n 0 with h | h | h
  · exact .inl ⟨h, by rw [if_pos h]⟩
  · subst h; exact .inr (.inl ⟨rfl, rfl⟩)
  · exact .inr (.inr ⟨h, by rw [if_neg (by omega : ¬ n < 0), if_pos h]⟩)
def plN (A B : Int) : Int := if sgn A = sgn B then 0 else ab A / gc (ab A) (ab (A - B))
def plD (A B : Int) : Int := if sgn A = sgn B then 0 else ab (A - B) / gc (ab A) (ab (A - B))
def plC (A B : Int) : Int := if sgn A = sgn B then 4 else 0
def cpN (a b c d p q u v : Int) : Int := if sgB a b c d = true ∧ sgB p q u v = true then plN (crs p q u v a b) (crs p q u v c d) else 0
def cpD (a b c d p q u v : Int) : Int := if sgB a b c d = true ∧ sgB p q u v = true then plD (crs p q u v a b) (crs p q u v c d) else 0
def cpC (a b c d p q u v : Int) : Int := if sgB a b c d = true ∧ sgB p q u v = true then plC (crs p q u v a b) (crs p q u v c d) else 1
theorem cp_done {n : Nat} {w F : World} {tmps : Array Value} {x y z : Int} {x' y' z' : Int} (B : Box F n [.int .i64 x, .int .i64 y]) (hC : Ext w F) (ha : tmps[4]? = some (.pointer (some ⟨n, 0, none⟩))) (hz : tmps[5]? = some (.int .i64 z)) (h : x' = x) (g : y' = y) (k : z' = z) :
    bodyPost Tryz.prog Tryz.f246 (fun e w' => e = .returned (.tuple #[Pt x' y', .int .i64 z']) ∧ Ext w w') Exit.ret ⟨tmps, []⟩ F := by
  obtain ⟨⟨g0, g1⟩, _⟩ := B.two
  subst h g k
  exact bodyPost_ret (v := .tuple #[Pt x' y', .int .i64 z']) (by simp [results, Tryz.results246, go_sem, ha, hz, g0, g1]) rfl ⟨rfl, hC⟩
theorem crossingPlace_impl (a b c d p q u v : Int) (w : World) :
    Calls Tryz.prog 246 #[Sg a b c d, Sg p q u v] w fun e w' => e = .returned (.tuple #[Pt (cpN a b c d p q u v) (cpD a b c d p q u v), .int .i64 (cpC a b c d p q u v)]) ∧ Ext w w' := by
  cases h1 : sgB a b c d
  · have HN := Lib.hid (show cpN a b c d p q u v = 0 from if_neg (by simp [h1]))
    have HD := Lib.hid (show cpD a b c d p q u v = 0 from if_neg (by simp [h1]))
    have HC := Lib.hid (show cpC a b c d p q u v = 1 from if_neg (by simp [h1]))
    obtain ⟨⟨i0, i1, i2, i3⟩, _⟩ := (((Box.new4 (w := w) (n := w.heap.size) (x := .int .i64 a) (y := .int .i64 b) (z := .int .i64 c) (u := .int .i64 d) (t := 225) rfl).alloc (.cells #[.int .i64 p, .int .i64 q, .int .i64 u, .int .i64 v] 225)).alloc (.cells #[.int .i64 0, .int .i64 0] 186)).four
    obtain ⟨⟨j0, j1, j2, j3⟩, _⟩ := ((Box.new4 (w := w.alloc (.cells #[.int .i64 a, .int .i64 b, .int .i64 c, .int .i64 d] 225)) (n := w.heap.size + 1) (x := .int .i64 p) (y := .int .i64 q) (z := .int .i64 u) (u := .int .i64 v) (t := 225) (by simp)).alloc (.cells #[.int .i64 0, .int .i64 0] 186)).four
    have B := Box.new2 (w := (w.alloc (.cells #[.int .i64 a, .int .i64 b, .int .i64 c, .int .i64 d] 225)).alloc (.cells #[.int .i64 p, .int .i64 q, .int .i64 u, .int .i64 v] 225)) (n := w.heap.size + 1 + 1) (x := .int .i64 0) (y := .int .i64 0) (t := 186) (by simp)
    obtain ⟨⟨b0, b1⟩, f0, f1⟩ := B.two
    replace B := Lib.hid B
    have hx := (((Ext.refl w).alloc (.cells #[.int .i64 a, .int .i64 b, .int .i64 c, .int .i64 d] 225)).alloc (.cells #[.int .i64 p, .int .i64 q, .int .i64 u, .int .i64 v] 225)).alloc (.cells #[.int .i64 0, .int .i64 0] 186)
    go_enter Tryz.func246, Tryz.ntmps246
    go_wp2_with (go_at_call 196; refine (sgValid_any _ _ _ _ _).mono ?_; rintro e w1 ⟨rfl, hy⟩; replace i0 := hy.cellOf i0; replace i1 := hy.cellOf i1; replace i2 := hy.cellOf i2; replace i3 := hy.cellOf i3; replace j0 := hy.cellOf j0; replace j1 := hy.cellOf j1; replace j2 := hy.cellOf j2; replace j3 := hy.cellOf j3; replace f0 := hy.thawOf b0 f0; replace f1 := hy.thawOf b1 f1; replace b0 := hy.cellOf b0; replace b1 := hy.cellOf b1; replace B := Lib.hid (B.out.ext hy); replace hx := hx.trans hy; clear hy)
    exact cp_done (n := w.heap.size + 1 + 1) (B.out.set2 (u := .int .i64 0) (v := .int .i64 0)) (by repeat (first | exact hx | (refine Ext.setNew ?_ (by simp; omega) _))) rfl rfl HN.out HD.out HC.out
  cases h2 : sgB p q u v
  · have HN := Lib.hid (show cpN a b c d p q u v = 0 from if_neg (by simp [h2]))
    have HD := Lib.hid (show cpD a b c d p q u v = 0 from if_neg (by simp [h2]))
    have HC := Lib.hid (show cpC a b c d p q u v = 1 from if_neg (by simp [h2]))
    obtain ⟨⟨i0, i1, i2, i3⟩, _⟩ := (((Box.new4 (w := w) (n := w.heap.size) (x := .int .i64 a) (y := .int .i64 b) (z := .int .i64 c) (u := .int .i64 d) (t := 225) rfl).alloc (.cells #[.int .i64 p, .int .i64 q, .int .i64 u, .int .i64 v] 225)).alloc (.cells #[.int .i64 0, .int .i64 0] 186)).four
    obtain ⟨⟨j0, j1, j2, j3⟩, _⟩ := ((Box.new4 (w := w.alloc (.cells #[.int .i64 a, .int .i64 b, .int .i64 c, .int .i64 d] 225)) (n := w.heap.size + 1) (x := .int .i64 p) (y := .int .i64 q) (z := .int .i64 u) (u := .int .i64 v) (t := 225) (by simp)).alloc (.cells #[.int .i64 0, .int .i64 0] 186)).four
    have B := Box.new2 (w := (w.alloc (.cells #[.int .i64 a, .int .i64 b, .int .i64 c, .int .i64 d] 225)).alloc (.cells #[.int .i64 p, .int .i64 q, .int .i64 u, .int .i64 v] 225)) (n := w.heap.size + 1 + 1) (x := .int .i64 0) (y := .int .i64 0) (t := 186) (by simp)
    obtain ⟨⟨b0, b1⟩, f0, f1⟩ := B.two
    replace B := Lib.hid B
    have hx := (((Ext.refl w).alloc (.cells #[.int .i64 a, .int .i64 b, .int .i64 c, .int .i64 d] 225)).alloc (.cells #[.int .i64 p, .int .i64 q, .int .i64 u, .int .i64 v] 225)).alloc (.cells #[.int .i64 0, .int .i64 0] 186)
    go_enter Tryz.func246, Tryz.ntmps246
    go_wp2_with (go_at_call 196; refine (sgValid_any _ _ _ _ _).mono ?_; rintro e w1 ⟨rfl, hy⟩; replace i0 := hy.cellOf i0; replace i1 := hy.cellOf i1; replace i2 := hy.cellOf i2; replace i3 := hy.cellOf i3; replace j0 := hy.cellOf j0; replace j1 := hy.cellOf j1; replace j2 := hy.cellOf j2; replace j3 := hy.cellOf j3; replace f0 := hy.thawOf b0 f0; replace f1 := hy.thawOf b1 f1; replace b0 := hy.cellOf b0; replace b1 := hy.cellOf b1; replace B := Lib.hid (B.out.ext hy); replace hx := hx.trans hy; clear hy)
    exact cp_done (n := w.heap.size + 1 + 1) (B.out.set2 (u := .int .i64 0) (v := .int .i64 0)) (by repeat (first | exact hx | (refine Ext.setNew ?_ (by simp; omega) _))) rfl rfl HN.out HD.out HC.out
  · have EN := show cpN a b c d p q u v = plN (crs p q u v a b) (crs p q u v c d) from if_pos ⟨h1, h2⟩
    have ED := show cpD a b c d p q u v = plD (crs p q u v a b) (crs p q u v c d) from if_pos ⟨h1, h2⟩
    have EC := show cpC a b c d p q u v = plC (crs p q u v a b) (crs p q u v c d) from if_pos ⟨h1, h2⟩
    obtain ⟨⟨ha, hb, hc, hd⟩, _⟩ := sgB_yes h1
    obtain ⟨⟨hp, hq, hu, hv⟩, _⟩ := sgB_yes h2
    obtain ⟨⟨i0, i1, i2, i3⟩, _⟩ := (((Box.new4 (w := w) (n := w.heap.size) (x := .int .i64 a) (y := .int .i64 b) (z := .int .i64 c) (u := .int .i64 d) (t := 225) rfl).alloc (.cells #[.int .i64 p, .int .i64 q, .int .i64 u, .int .i64 v] 225)).alloc (.cells #[.int .i64 0, .int .i64 0] 186)).four
    obtain ⟨⟨j0, j1, j2, j3⟩, _⟩ := ((Box.new4 (w := w.alloc (.cells #[.int .i64 a, .int .i64 b, .int .i64 c, .int .i64 d] 225)) (n := w.heap.size + 1) (x := .int .i64 p) (y := .int .i64 q) (z := .int .i64 u) (u := .int .i64 v) (t := 225) (by simp)).alloc (.cells #[.int .i64 0, .int .i64 0] 186)).four
    have B := Box.new2 (w := (w.alloc (.cells #[.int .i64 a, .int .i64 b, .int .i64 c, .int .i64 d] 225)).alloc (.cells #[.int .i64 p, .int .i64 q, .int .i64 u, .int .i64 v] 225)) (n := w.heap.size + 1 + 1) (x := .int .i64 0) (y := .int .i64 0) (t := 186) (by simp)
    obtain ⟨⟨b0, b1⟩, f0, f1⟩ := B.two
    replace B := Lib.hid B
    have hx := (((Ext.refl w).alloc (.cells #[.int .i64 a, .int .i64 b, .int .i64 c, .int .i64 d] 225)).alloc (.cells #[.int .i64 p, .int .i64 q, .int .i64 u, .int .i64 v] 225)).alloc (.cells #[.int .i64 0, .int .i64 0] 186)
    go_enter Tryz.func246, Tryz.ntmps246
    go_wp2_with (go_at_call 196; refine (sgValid_any _ _ _ _ _).mono ?_; rintro e w1 ⟨rfl, hy⟩; replace i0 := hy.cellOf i0; replace i1 := hy.cellOf i1; replace i2 := hy.cellOf i2; replace i3 := hy.cellOf i3; replace j0 := hy.cellOf j0; replace j1 := hy.cellOf j1; replace j2 := hy.cellOf j2; replace j3 := hy.cellOf j3; replace f0 := hy.thawOf b0 f0; replace f1 := hy.thawOf b1 f1; replace b0 := hy.cellOf b0; replace b1 := hy.cellOf b1; replace B := Lib.hid (B.out.ext hy); replace hx := hx.trans hy; clear hy)
    obtain ⟨A1, A2⟩ := crs_bd hp hq hu hv ha hb
    obtain ⟨C1, C2⟩ := crs_bd hp hq hu hv hc hd
    go_region_held3 (fun w' => w'.cell? ⟨w.heap.size, 0, none⟩ = some (.int .i64 a) ∧ w'.cell? ⟨w.heap.size, 1, none⟩ = some (.int .i64 b) ∧ w'.cell? ⟨w.heap.size, 2, none⟩ = some (.int .i64 c) ∧ w'.cell? ⟨w.heap.size, 3, none⟩ = some (.int .i64 d) ∧ w'.cell? ⟨w.heap.size + 1, 0, none⟩ = some (.int .i64 p) ∧ w'.cell? ⟨w.heap.size + 1, 1, none⟩ = some (.int .i64 q) ∧ w'.cell? ⟨w.heap.size + 1, 2, none⟩ = some (.int .i64 u) ∧ w'.cell? ⟨w.heap.size + 1, 3, none⟩ = some (.int .i64 v) ∧ Box w' (w.heap.size + 1 + 1) [.int .i64 0, .int .i64 0] ∧ Ext w w')
      (first | exact ⟨i0, i1, i2, i3, j0, j1, j2, j3, B.out.drew, hx.drew⟩ | (go_split_ands; (repeat' apply And.intro) <;> first | exact Ext.cellOf hy (by assumption) | exact Box.ext (by assumption) hy | exact Ext.trans (by assumption) hy))
      (first | (go_at_call 263; refine (turnTo_any _ _ _ _ _ _ _ (by omega) (by omega) (by omega) (by omega) (by omega) (by omega)).mono ?_; rintro e w1 ⟨rfl, hy⟩))
    clear i0 i1 i2 i3 j0 j1 j2 j3 b0 b1 f0 f1 B hx
    go_split_ands
    rename_i hb0 hx
    have B := Lib.hid hb0
    obtain ⟨⟨b0, b1⟩, f0, f1⟩ := hb0.two
    clear hb0
    generalize hA : crs p q u v a b = A at *
    generalize hC : crs p q u v c d = C at *
    by_cases hs : sgn A = sgn C
    · have hs1 : (sgn A == sgn C) = true := beq_iff_eq.2 hs
      have HN := Lib.hid (EN.trans (if_pos hs))
      have HD := Lib.hid (ED.trans (if_pos hs))
      have HC := Lib.hid (EC.trans (if_pos hs))
      clear hs EN ED EC
      go_wp2_with (go_at_call 293; refine (signOf_any _ _).mono ?_; rintro e w1 ⟨rfl, rfl⟩)
      exact cp_done (n := w.heap.size + 1 + 1) (B.out.set2 (u := .int .i64 0) (v := .int .i64 0)) (by repeat (first | exact hx | (refine Ext.setNew ?_ (by simp; omega) _))) rfl rfl HN.out HD.out HC.out
    · have hs1 : (sgn A == sgn C) = false := beq_eq_false_iff_ne.2 hs
      have HN := Lib.hid (EN.trans (if_neg hs))
      have HD := Lib.hid (ED.trans (if_neg hs))
      have HC := Lib.hid (EC.trans (if_neg hs))
      obtain ⟨n1, n2⟩ := ab_bd (n := A) (M := 8000000000000) (by omega) (by omega)
      obtain ⟨d1, d2⟩ := ab_bd (n := A - C) (M := 16000000000000) (by omega) (by omega)
      have d3 : 1 ≤ ab (A - C) := by
        unfold ab; by_cases h : A - C < 0
        · rw [if_pos h]; omega
        · rw [if_neg h]
          have : ¬ A = C := fun h => hs (by rw [h])
          omega
      clear hs EN ED EC
      go_wp2_with (first | (go_at_call 293; refine (signOf_any _ _).mono ?_; rintro e w1 ⟨rfl, rfl⟩) | (go_at_call 162; refine (absolute_any _ _ (by omega) (by omega)).mono ?_; rintro e w1 ⟨rfl, rfl⟩) | (go_at_call 294; refine (lowestTerms_any _ _ _ (by omega) (by omega) (by omega) (by omega)).mono ?_; rintro e w1 ⟨rfl, hy⟩; replace f0 := hy.thawOf b0 f0; replace f1 := hy.thawOf b1 f1; replace b0 := hy.cellOf b0; replace b1 := hy.cellOf b1; replace B := Lib.hid (B.out.ext hy); replace hx := hx.trans hy; clear hy))
      exact cp_done (n := w.heap.size + 1 + 1) B.out.set2 (by repeat (first | exact hx | (refine Ext.setNew ?_ (by simp; omega) _))) rfl rfl HN.out HD.out HC.out
end Go.Proofs.YtmlojndkpnhalaaGreat.Gcd
namespace Go.Proofs.YtmlojndkpnhalaaGreat.Gcd
open Go.ChangeShapes Go.WideShapes Go.ChangeAt Go.RowKit
open Go.Proofs.YtmlojndkpnhalaaGreat.Num Go.Proofs.YtmlojndkpnhalaaGreat.Kit Go.Proofs.YtmlojndkpnhalaaGreat.Pts Go.Proofs.YtmlojndkpnhalaaGreat.Seg
set_option linter.unusedVariables false
set_option linter.unusedSimpArgs false
theorem pl_eq {A C n d : Int} (hs : sgn A ≠ sgn C) (h1 : ab A = n) (h2 : ab (A - C) = d) : plN A C = n / gc n d ∧ plD A C = d / gc n d := by
  unfold plN plD; rw [if_neg hs, if_neg hs, h1, h2]; exact ⟨rfl, rfl⟩
theorem pl_no {A C : Int} (hs : sgn A = sgn C) : plN A C = 0 ∧ plD A C = 0 := by
  unfold plN plD; rw [if_pos hs, if_pos hs]; exact ⟨rfl, rfl⟩
def plO (A C : Int) : Bool := !(sgn A == sgn C)
theorem ab_neg {n m : Int} (h : n < 0) (e : m = -n) : ab n = m := by unfold ab; rw [if_pos h]; exact e.symm
theorem ab_pos {n m : Int} (h : 0 ≤ n) (e : m = n) : ab n = m := by unfold ab; rw [if_neg (by omega)]; exact e.symm
theorem sp_done {n : Nat} {w F : World} {tmps : Array Value} {x y : Int} {z : Bool} {x' y' : Int} {z' : Bool} (B : Box F n [.int .i64 x, .int .i64 y]) (hC : Ext w F) (ha : tmps[4]? = some (.pointer (some ⟨n, 0, none⟩))) (hz : tmps[5]? = some (.bool z)) (h : x' = x) (g : y' = y) (k : z' = z) :
    bodyPost Tryz.prog Tryz.f239 (fun e w' => e = .returned (.tuple #[Pt x' y', .bool z']) ∧ Ext w w') Exit.ret ⟨tmps, []⟩ F := by
  obtain ⟨⟨g0, g1⟩, _⟩ := B.two
  subst h g k
  exact bodyPost_ret (v := .tuple #[Pt x' y', .bool z']) (by simp [results, Tryz.results239, go_sem, ha, hz, g0, g1]) rfl ⟨rfl, hC⟩
set_option maxHeartbeats 1000000 in
theorem placeS_any (a b c d p q u v : Int) (w : World) (ha : Co a) (hb : Co b) (hc : Co c) (hd : Co d) (hp : Co p) (hq : Co q) (hu : Co u) (hv : Co v) :
    Calls Tryz.prog 239 #[Sg a b c d, Sg p q u v] w fun e w' => e = .returned (.tuple #[Pt (plN (crs p q u v a b) (crs p q u v c d)) (plD (crs p q u v a b) (crs p q u v c d)), .bool (plO (crs p q u v a b) (crs p q u v c d))]) ∧ Ext w w' := by
  obtain ⟨A1, A2⟩ := crs_bd hp hq hu hv ha hb
  obtain ⟨C1, C2⟩ := crs_bd hp hq hu hv hc hd
  obtain ⟨⟨i0, i1, i2, i3⟩, _⟩ := (((Box.new4 (w := w) (n := w.heap.size) (x := .int .i64 a) (y := .int .i64 b) (z := .int .i64 c) (u := .int .i64 d) (t := 225) rfl).alloc (.cells #[.int .i64 p, .int .i64 q, .int .i64 u, .int .i64 v] 225)).alloc (.cells #[.int .i64 0, .int .i64 0] 186)).four
  obtain ⟨⟨j0, j1, j2, j3⟩, _⟩ := ((Box.new4 (w := w.alloc (.cells #[.int .i64 a, .int .i64 b, .int .i64 c, .int .i64 d] 225)) (n := w.heap.size + 1) (x := .int .i64 p) (y := .int .i64 q) (z := .int .i64 u) (u := .int .i64 v) (t := 225) (by simp)).alloc (.cells #[.int .i64 0, .int .i64 0] 186)).four
  have B := Box.new2 (w := (w.alloc (.cells #[.int .i64 a, .int .i64 b, .int .i64 c, .int .i64 d] 225)).alloc (.cells #[.int .i64 p, .int .i64 q, .int .i64 u, .int .i64 v] 225)) (n := w.heap.size + 1 + 1) (x := .int .i64 0) (y := .int .i64 0) (t := 186) (by simp)
  obtain ⟨⟨b0, b1⟩, f0, f1⟩ := B.two
  replace B := Lib.hid B
  have hx := (((Ext.refl w).alloc (.cells #[.int .i64 a, .int .i64 b, .int .i64 c, .int .i64 d] 225)).alloc (.cells #[.int .i64 p, .int .i64 q, .int .i64 u, .int .i64 v] 225)).alloc (.cells #[.int .i64 0, .int .i64 0] 186)
  go_enter Tryz.func239, Tryz.ntmps239
  go_wp2_with fail
  go_region_held3 (fun w' => w'.cell? ⟨w.heap.size, 0, none⟩ = some (.int .i64 a) ∧ w'.cell? ⟨w.heap.size, 1, none⟩ = some (.int .i64 b) ∧ w'.cell? ⟨w.heap.size, 2, none⟩ = some (.int .i64 c) ∧ w'.cell? ⟨w.heap.size, 3, none⟩ = some (.int .i64 d) ∧ w'.cell? ⟨w.heap.size + 1, 0, none⟩ = some (.int .i64 p) ∧ w'.cell? ⟨w.heap.size + 1, 1, none⟩ = some (.int .i64 q) ∧ w'.cell? ⟨w.heap.size + 1, 2, none⟩ = some (.int .i64 u) ∧ w'.cell? ⟨w.heap.size + 1, 3, none⟩ = some (.int .i64 v) ∧ Box w' (w.heap.size + 1 + 1) [.int .i64 0, .int .i64 0] ∧ Ext w w')
    (first | exact ⟨i0, i1, i2, i3, j0, j1, j2, j3, B.out.drew, hx.drew⟩ | (go_split_ands; (repeat' apply And.intro) <;> first | exact Ext.cellOf hy (by assumption) | exact Box.ext (by assumption) hy | exact Ext.trans (by assumption) hy))
    (first | (go_at_call 131; refine (minus_any _ _ _ _ _ (by omega) (by omega) (by omega) (by omega)).mono ?_; rintro e w1 ⟨rfl, hy⟩) | (go_at_call 215; refine (crossS_any _ _ _ _ _ (by omega) (by omega) (by omega) (by omega)).mono ?_; rintro e w1 ⟨rfl, hy⟩))
  clear i0 i1 i2 i3 j0 j1 j2 j3 b0 b1 f0 f1 B hx
  go_split_ands
  rename_i hb0 hx
  have B := Lib.hid hb0
  obtain ⟨⟨b0, b1⟩, f0, f1⟩ := hb0.two
  clear hb0
  go_wp2_with fail
  go_region_held3 (fun w' => w'.cell? ⟨w.heap.size, 0, none⟩ = some (.int .i64 a) ∧ w'.cell? ⟨w.heap.size, 1, none⟩ = some (.int .i64 b) ∧ w'.cell? ⟨w.heap.size, 2, none⟩ = some (.int .i64 c) ∧ w'.cell? ⟨w.heap.size, 3, none⟩ = some (.int .i64 d) ∧ w'.cell? ⟨w.heap.size + 1, 0, none⟩ = some (.int .i64 p) ∧ w'.cell? ⟨w.heap.size + 1, 1, none⟩ = some (.int .i64 q) ∧ w'.cell? ⟨w.heap.size + 1, 2, none⟩ = some (.int .i64 u) ∧ w'.cell? ⟨w.heap.size + 1, 3, none⟩ = some (.int .i64 v) ∧ Box w' (w.heap.size + 1 + 1) [.int .i64 0, .int .i64 0] ∧ Ext w w')
    (first | ((repeat' apply And.intro) <;> first | assumption | exact B.out.drew | exact hx.drew) | (go_split_ands; (repeat' apply And.intro) <;> first | exact Ext.cellOf hy (by assumption) | exact Box.ext (by assumption) hy | exact Ext.trans (by assumption) hy))
    (first | (go_at_call 131; refine (minus_any _ _ _ _ _ (by omega) (by omega) (by omega) (by omega)).mono ?_; rintro e w1 ⟨rfl, hy⟩) | (go_at_call 215; refine (crossS_any _ _ _ _ _ (by omega) (by omega) (by omega) (by omega)).mono ?_; rintro e w1 ⟨rfl, hy⟩))
  clear b0 b1 f0 f1 B hx
  go_split_ands
  rename_i hb0 hx
  have B := Lib.hid hb0
  obtain ⟨⟨b0, b1⟩, f0, f1⟩ := hb0.two
  clear hb0
  have eA : (u - p) * (b - q) - (v - q) * (a - p) = crs p q u v a b := rfl
  have eC : (u - p) * (d - q) - (v - q) * (c - p) = crs p q u v c d := rfl
  rw [eA, eC]
  generalize hA : crs p q u v a b = A at *
  generalize hC : crs p q u v c d = C at *
  have XA := Lib.hid hA
  have XC := Lib.hid hC
  clear eA eC hA hC
  rcases sgn_cases A with ⟨gA, sA⟩ | ⟨gA, sA⟩ | ⟨gA, sA⟩ <;> rcases sgn_cases C with ⟨gC, sC⟩ | ⟨gC, sC⟩ | ⟨gC, sC⟩
  · have HO := Lib.hid (show plO A C = false by unfold plO; rw [sA, sC]; rfl)
    obtain ⟨hN, hD⟩ := pl_no (A := A) (C := C) (sA.trans sC.symm)
    have HN := Lib.hid hN
    have HD := Lib.hid hD
    have zA : (A == 0) = false := by rw [beq_eq_false_iff_ne]; omega
    have zC : (C == 0) = false := by rw [beq_eq_false_iff_ne]; omega
    clear hN hD
    go_wp2_with (first | (go_at_call 214; refine (sign_any _ _).mono ?_; rintro e w1 ⟨rfl, rfl⟩) | (go_at_call 286; refine (ratioS_any _ _ _ (by omega) (by omega) (by omega) (by omega)).mono ?_; rintro e w1 ⟨rfl, hy⟩; replace f0 := hy.thawOf b0 f0; replace f1 := hy.thawOf b1 f1; replace b0 := hy.cellOf b0; replace b1 := hy.cellOf b1; replace B := Lib.hid (B.out.ext hy); replace hx := hx.trans hy; clear hy))
    exact sp_done (n := w.heap.size + 1 + 1) B.out.set2 (by repeat (first | exact hx | (refine Ext.setNew ?_ (by simp; omega) _))) rfl rfl (by rw [XA.out, XC.out]; exact HN.out) (by rw [XA.out, XC.out]; exact HD.out) (by rw [XA.out, XC.out]; exact HO.out)
  · have HO := Lib.hid (show plO A C = true by unfold plO; rw [sA, sC]; rfl)
    obtain ⟨hN, hD⟩ := pl_eq (A := A) (C := C) (n := -A) (d := -A + C) (by rw [sA, sC]; decide) (ab_neg gA rfl) (ab_neg (by omega) (by omega))
    have HN := Lib.hid hN
    have HD := Lib.hid hD
    have zA : (A == 0) = false := by rw [beq_eq_false_iff_ne]; omega
    have zC : (C == 0) = true := by simp [gC]
    have C3 : 0 ≤ C := by omega
    have C4 : C ≤ 0 := by omega
    clear hN hD gC
    go_wp2_with (first | (go_at_call 214; refine (sign_any _ _).mono ?_; rintro e w1 ⟨rfl, rfl⟩) | (go_at_call 286; refine (ratioS_any _ _ _ (by omega) (by omega) (by omega) (by omega)).mono ?_; rintro e w1 ⟨rfl, hy⟩; replace f0 := hy.thawOf b0 f0; replace f1 := hy.thawOf b1 f1; replace b0 := hy.cellOf b0; replace b1 := hy.cellOf b1; replace B := Lib.hid (B.out.ext hy); replace hx := hx.trans hy; clear hy))
    exact sp_done (n := w.heap.size + 1 + 1) B.out.set2 (by repeat (first | exact hx | (refine Ext.setNew ?_ (by simp; omega) _))) rfl rfl (by rw [XA.out, XC.out]; exact HN.out) (by rw [XA.out, XC.out]; exact HD.out) (by rw [XA.out, XC.out]; exact HO.out)
  · have HO := Lib.hid (show plO A C = true by unfold plO; rw [sA, sC]; rfl)
    obtain ⟨hN, hD⟩ := pl_eq (A := A) (C := C) (n := -A) (d := -A + C) (by rw [sA, sC]; decide) (ab_neg gA rfl) (ab_neg (by omega) (by omega))
    have HN := Lib.hid hN
    have HD := Lib.hid hD
    have zA : (A == 0) = false := by rw [beq_eq_false_iff_ne]; omega
    have zC : (C == 0) = false := by rw [beq_eq_false_iff_ne]; omega
    clear hN hD
    go_wp2_with (first | (go_at_call 214; refine (sign_any _ _).mono ?_; rintro e w1 ⟨rfl, rfl⟩) | (go_at_call 286; refine (ratioS_any _ _ _ (by omega) (by omega) (by omega) (by omega)).mono ?_; rintro e w1 ⟨rfl, hy⟩; replace f0 := hy.thawOf b0 f0; replace f1 := hy.thawOf b1 f1; replace b0 := hy.cellOf b0; replace b1 := hy.cellOf b1; replace B := Lib.hid (B.out.ext hy); replace hx := hx.trans hy; clear hy))
    exact sp_done (n := w.heap.size + 1 + 1) B.out.set2 (by repeat (first | exact hx | (refine Ext.setNew ?_ (by simp; omega) _))) rfl rfl (by rw [XA.out, XC.out]; exact HN.out) (by rw [XA.out, XC.out]; exact HD.out) (by rw [XA.out, XC.out]; exact HO.out)
  · have HO := Lib.hid (show plO A C = true by unfold plO; rw [sA, sC]; rfl)
    obtain ⟨hN, hD⟩ := pl_eq (A := A) (C := C) (n := A) (d := A + -C) (by rw [sA, sC]; decide) (ab_pos (by omega) rfl) (ab_pos (by omega) (by omega))
    have HN := Lib.hid hN
    have HD := Lib.hid hD
    have zA : (A == 0) = true := by simp [gA]
    have zC : (C == 0) = false := by rw [beq_eq_false_iff_ne]; omega
    have A3 : 0 ≤ A := by omega
    have A4 : A ≤ 0 := by omega
    clear hN hD gA
    go_wp2_with (first | (go_at_call 214; refine (sign_any _ _).mono ?_; rintro e w1 ⟨rfl, rfl⟩) | (go_at_call 286; refine (ratioS_any _ _ _ (by omega) (by omega) (by omega) (by omega)).mono ?_; rintro e w1 ⟨rfl, hy⟩; replace f0 := hy.thawOf b0 f0; replace f1 := hy.thawOf b1 f1; replace b0 := hy.cellOf b0; replace b1 := hy.cellOf b1; replace B := Lib.hid (B.out.ext hy); replace hx := hx.trans hy; clear hy))
    exact sp_done (n := w.heap.size + 1 + 1) B.out.set2 (by repeat (first | exact hx | (refine Ext.setNew ?_ (by simp; omega) _))) rfl rfl (by rw [XA.out, XC.out]; exact HN.out) (by rw [XA.out, XC.out]; exact HD.out) (by rw [XA.out, XC.out]; exact HO.out)
  · have HO := Lib.hid (show plO A C = false by unfold plO; rw [sA, sC]; rfl)
    obtain ⟨hN, hD⟩ := pl_no (A := A) (C := C) (sA.trans sC.symm)
    have HN := Lib.hid hN
    have HD := Lib.hid hD
    have zA : (A == 0) = true := by simp [gA]
    have zC : (C == 0) = true := by simp [gC]
    have A3 : 0 ≤ A := by omega
    have A4 : A ≤ 0 := by omega
    have C3 : 0 ≤ C := by omega
    have C4 : C ≤ 0 := by omega
    clear hN hD gA gC
    go_wp2_with (first | (go_at_call 214; refine (sign_any _ _).mono ?_; rintro e w1 ⟨rfl, rfl⟩) | (go_at_call 286; refine (ratioS_any _ _ _ (by omega) (by omega) (by omega) (by omega)).mono ?_; rintro e w1 ⟨rfl, hy⟩; replace f0 := hy.thawOf b0 f0; replace f1 := hy.thawOf b1 f1; replace b0 := hy.cellOf b0; replace b1 := hy.cellOf b1; replace B := Lib.hid (B.out.ext hy); replace hx := hx.trans hy; clear hy))
    exact sp_done (n := w.heap.size + 1 + 1) B.out.set2 (by repeat (first | exact hx | (refine Ext.setNew ?_ (by simp; omega) _))) rfl rfl (by rw [XA.out, XC.out]; exact HN.out) (by rw [XA.out, XC.out]; exact HD.out) (by rw [XA.out, XC.out]; exact HO.out)
  · have HO := Lib.hid (show plO A C = true by unfold plO; rw [sA, sC]; rfl)
    obtain ⟨hN, hD⟩ := pl_eq (A := A) (C := C) (n := A) (d := A + C) (by rw [sA, sC]; decide) (ab_pos (by omega) rfl) (ab_neg (by omega) (by omega))
    have HN := Lib.hid hN
    have HD := Lib.hid hD
    have zA : (A == 0) = true := by simp [gA]
    have zC : (C == 0) = false := by rw [beq_eq_false_iff_ne]; omega
    have A3 : 0 ≤ A := by omega
    have A4 : A ≤ 0 := by omega
    clear hN hD gA
    go_wp2_with (first | (go_at_call 214; refine (sign_any _ _).mono ?_; rintro e w1 ⟨rfl, rfl⟩) | (go_at_call 286; refine (ratioS_any _ _ _ (by omega) (by omega) (by omega) (by omega)).mono ?_; rintro e w1 ⟨rfl, hy⟩; replace f0 := hy.thawOf b0 f0; replace f1 := hy.thawOf b1 f1; replace b0 := hy.cellOf b0; replace b1 := hy.cellOf b1; replace B := Lib.hid (B.out.ext hy); replace hx := hx.trans hy; clear hy))
    exact sp_done (n := w.heap.size + 1 + 1) B.out.set2 (by repeat (first | exact hx | (refine Ext.setNew ?_ (by simp; omega) _))) rfl rfl (by rw [XA.out, XC.out]; exact HN.out) (by rw [XA.out, XC.out]; exact HD.out) (by rw [XA.out, XC.out]; exact HO.out)
  · have HO := Lib.hid (show plO A C = true by unfold plO; rw [sA, sC]; rfl)
    obtain ⟨hN, hD⟩ := pl_eq (A := A) (C := C) (n := A) (d := A + -C) (by rw [sA, sC]; decide) (ab_pos (by omega) rfl) (ab_pos (by omega) (by omega))
    have HN := Lib.hid hN
    have HD := Lib.hid hD
    have zA : (A == 0) = false := by rw [beq_eq_false_iff_ne]; omega
    have zC : (C == 0) = false := by rw [beq_eq_false_iff_ne]; omega
    clear hN hD
    go_wp2_with (first | (go_at_call 214; refine (sign_any _ _).mono ?_; rintro e w1 ⟨rfl, rfl⟩) | (go_at_call 286; refine (ratioS_any _ _ _ (by omega) (by omega) (by omega) (by omega)).mono ?_; rintro e w1 ⟨rfl, hy⟩; replace f0 := hy.thawOf b0 f0; replace f1 := hy.thawOf b1 f1; replace b0 := hy.cellOf b0; replace b1 := hy.cellOf b1; replace B := Lib.hid (B.out.ext hy); replace hx := hx.trans hy; clear hy))
    exact sp_done (n := w.heap.size + 1 + 1) B.out.set2 (by repeat (first | exact hx | (refine Ext.setNew ?_ (by simp; omega) _))) rfl rfl (by rw [XA.out, XC.out]; exact HN.out) (by rw [XA.out, XC.out]; exact HD.out) (by rw [XA.out, XC.out]; exact HO.out)
  · have HO := Lib.hid (show plO A C = true by unfold plO; rw [sA, sC]; rfl)
    obtain ⟨hN, hD⟩ := pl_eq (A := A) (C := C) (n := A) (d := A + C) (by rw [sA, sC]; decide) (ab_pos (by omega) rfl) (ab_pos (by omega) (by omega))
    have HN := Lib.hid hN
    have HD := Lib.hid hD
    have zA : (A == 0) = false := by rw [beq_eq_false_iff_ne]; omega
    have zC : (C == 0) = true := by simp [gC]
    have C3 : 0 ≤ C := by omega
    have C4 : C ≤ 0 := by omega
    clear hN hD gC
    go_wp2_with (first | (go_at_call 214; refine (sign_any _ _).mono ?_; rintro e w1 ⟨rfl, rfl⟩) | (go_at_call 286; refine (ratioS_any _ _ _ (by omega) (by omega) (by omega) (by omega)).mono ?_; rintro e w1 ⟨rfl, hy⟩; replace f0 := hy.thawOf b0 f0; replace f1 := hy.thawOf b1 f1; replace b0 := hy.cellOf b0; replace b1 := hy.cellOf b1; replace B := Lib.hid (B.out.ext hy); replace hx := hx.trans hy; clear hy))
    exact sp_done (n := w.heap.size + 1 + 1) B.out.set2 (by repeat (first | exact hx | (refine Ext.setNew ?_ (by simp; omega) _))) rfl rfl (by rw [XA.out, XC.out]; exact HN.out) (by rw [XA.out, XC.out]; exact HD.out) (by rw [XA.out, XC.out]; exact HO.out)
  · have HO := Lib.hid (show plO A C = false by unfold plO; rw [sA, sC]; rfl)
    obtain ⟨hN, hD⟩ := pl_no (A := A) (C := C) (sA.trans sC.symm)
    have HN := Lib.hid hN
    have HD := Lib.hid hD
    have zA : (A == 0) = false := by rw [beq_eq_false_iff_ne]; omega
    have zC : (C == 0) = false := by rw [beq_eq_false_iff_ne]; omega
    clear hN hD
    go_wp2_with (first | (go_at_call 214; refine (sign_any _ _).mono ?_; rintro e w1 ⟨rfl, rfl⟩) | (go_at_call 286; refine (ratioS_any _ _ _ (by omega) (by omega) (by omega) (by omega)).mono ?_; rintro e w1 ⟨rfl, hy⟩; replace f0 := hy.thawOf b0 f0; replace f1 := hy.thawOf b1 f1; replace b0 := hy.cellOf b0; replace b1 := hy.cellOf b1; replace B := Lib.hid (B.out.ext hy); replace hx := hx.trans hy; clear hy))
    exact sp_done (n := w.heap.size + 1 + 1) B.out.set2 (by repeat (first | exact hx | (refine Ext.setNew ?_ (by simp; omega) _))) rfl rfl (by rw [XA.out, XC.out]; exact HN.out) (by rw [XA.out, XC.out]; exact HD.out) (by rw [XA.out, XC.out]; exact HO.out)
end Go.Proofs.YtmlojndkpnhalaaGreat.Gcd
