import Derived.Test.YtknelhceaoblhaaGreatWin
import Derived.Test.YtknelhceaoblhaaGreatRel2
import Derived.Test.YtknelhceaoblhaaGreatMPts
namespace Go.Proofs.YtknelhceaoblhaaGreat.Win
open Go.ChangeShapes Go.WideShapes Go.ChangeAt Go.RowKit
open Go.Proofs.YtknelhceaoblhaaGreat.Num Go.Proofs.YtknelhceaoblhaaGreat.Kit Go.Proofs.YtknelhceaoblhaaGreat.Pts Go.Proofs.YtknelhceaoblhaaGreat.Seg Go.Proofs.YtknelhceaoblhaaGreat.Gcd Go.Proofs.YtknelhceaoblhaaGreat.Cmp Go.Proofs.YtknelhceaoblhaaGreat.Rt Go.Proofs.YtknelhceaoblhaaGreat.Wid
set_option linter.unusedVariables false
set_option linter.unusedSimpArgs false
theorem Ext.of_eq {w w' : World} (h : w = w') : Ext w w' := by subst h; exact Ext.refl _
set_option maxHeartbeats 2000000 in
theorem within_any (a b c d p q r : Int) (w : World) (ha : Co a) (hb : Co b) (hc : Co c) (hd : Co d) (hp : Co p) (hq : Co q) (hne : ¬ (a = c ∧ b = d)) (r0 : 0 ≤ r) (r1 : r ≤ 10000) :
    Calls Tryz.prog 99 #[Sg a b c d, Pt p q, .int .i64 r] w fun e w' => e = .returned (.bool (wiB a b c d p q r)) ∧ Ext w w' := by
  obtain ⟨M1, M2⟩ := sqL_bd ha hb hc hd hne
  obtain ⟨T1, T2⟩ := crs_bd ha hb hc hd hp hq
  have hT1 : -1000000000000000000 ≤ (c - a) * (q - b) - (d - b) * (p - a) := by have := T1; unfold crs at this; omega
  have hT2 : (c - a) * (q - b) - (d - b) * (p - a) ≤ 1000000000000000000 := by have := T2; unfold crs at this; omega
  obtain ⟨U1, U2⟩ := ab_bd T1 T2
  obtain ⟨R1, R2⟩ := nn_bd r0 r1 r0 r1
  simp only [Int.reduceMul] at R2
  have WS := wiB_spec a b c d p q r M1
  clear hne
  have B0 := Lib.hid ((Box.new4 (w := w) (n := w.heap.size) (x := .int .i64 a) (y := .int .i64 b) (z := .int .i64 c) (u := .int .i64 d) (t := 144) rfl).alloc (.cells #[.int .i64 p, .int .i64 q] 113))
  have B1 := Lib.hid (Box.new2 (w := w.alloc (.cells #[.int .i64 a, .int .i64 b, .int .i64 c, .int .i64 d] 144)) (n := w.heap.size + 1) (x := .int .i64 p) (y := .int .i64 q) (t := 113) (by simp))
  have hx := ((Ext.refl w).alloc (.cells #[.int .i64 a, .int .i64 b, .int .i64 c, .int .i64 d] 144)).alloc (.cells #[.int .i64 p, .int .i64 q] 113)
  by_cases s1 : sqD a b p q ≤ r * r
  · have H := Lib.hid (show wiB a b c d p q r = true by rw [WS, decide_eq_true s1]; rfl)
    clear WS
    obtain ⟨⟨i0, i1, i2, i3⟩, _⟩ := B0.out.four
    obtain ⟨⟨j0, j1⟩, _⟩ := B1.out.two
    go_enter Tryz.func99, Tryz.ntmps99
    go_wp2_with (go_at_call 136; refine (square_any _ _ _ _ _ (by omega) (by omega) (by omega) (by omega)).mono ?_; rintro e w1 ⟨rfl, hy⟩; replace B0 := Lib.hid (B0.out.ext hy); replace B1 := Lib.hid (B1.out.ext hy); replace hx := hx.trans hy; clear hy; (try clear i0 i1 i2 i3 j0 j1); obtain ⟨⟨i0, i1, i2, i3⟩, _⟩ := B0.out.four; obtain ⟨⟨j0, j1⟩, _⟩ := B1.out.two)
    go_ret
    exact ⟨ret_bool H.out, hx⟩
  by_cases s2 : sqD c d p q ≤ r * r
  · have H := Lib.hid (show wiB a b c d p q r = true by rw [WS, decide_eq_true s2]; simp)
    clear WS
    obtain ⟨⟨i0, i1, i2, i3⟩, _⟩ := B0.out.four
    obtain ⟨⟨j0, j1⟩, _⟩ := B1.out.two
    go_enter Tryz.func99, Tryz.ntmps99
    go_wp2_with (go_at_call 136; refine (square_any _ _ _ _ _ (by omega) (by omega) (by omega) (by omega)).mono ?_; rintro e w1 ⟨rfl, hy⟩; replace B0 := Lib.hid (B0.out.ext hy); replace B1 := Lib.hid (B1.out.ext hy); replace hx := hx.trans hy; clear hy; (try clear i0 i1 i2 i3 j0 j1); obtain ⟨⟨i0, i1, i2, i3⟩, _⟩ := B0.out.four; obtain ⟨⟨j0, j1⟩, _⟩ := B1.out.two)
    go_ret
    exact ⟨ret_bool H.out, hx⟩
  rw [decide_eq_false s1, decide_eq_false s2] at WS
  replace WS := Lib.hid WS
  obtain ⟨⟨i0, i1, i2, i3⟩, _⟩ := B0.out.four
  obtain ⟨⟨j0, j1⟩, _⟩ := B1.out.two
  go_enter Tryz.func99, Tryz.ntmps99
  go_wp2_with (go_at_call 136; refine (square_any _ _ _ _ _ (by omega) (by omega) (by omega) (by omega)).mono ?_; rintro e w1 ⟨rfl, hy⟩; replace B0 := Lib.hid (B0.out.ext hy); replace B1 := Lib.hid (B1.out.ext hy); replace hx := hx.trans hy; clear hy; (try clear i0 i1 i2 i3 j0 j1); obtain ⟨⟨i0, i1, i2, i3⟩, _⟩ := B0.out.four; obtain ⟨⟨j0, j1⟩, _⟩ := B1.out.two)
  refine (minus_any _ _ _ _ _ hc hd ha hb).mono ?_
  rintro e w3 ⟨rfl, hy⟩
  replace B0 := Lib.hid ((B0.out.ext hy).alloc (.cells #[.int .i64 (c - a), .int .i64 (d - b)] 113))
  replace B1 := Lib.hid ((B1.out.ext hy).alloc (.cells #[.int .i64 (c - a), .int .i64 (d - b)] 113))
  have B3 := Lib.hid (Box.new2 (w := w3) (n := w3.heap.size) (x := .int .i64 (c - a)) (y := .int .i64 (d - b)) (t := 113) rfl)
  replace hx := (hx.trans hy).alloc (.cells #[.int .i64 (c - a), .int .i64 (d - b)] 113)
  clear hy i0 i1 i2 i3 j0 j1
  go_wp2_with fail
  have e0 : ∀ w', Ext (w3.alloc (.cells #[.int .i64 (c - a), .int .i64 (d - b)] 113)) w' → w'.cell? ⟨w.heap.size, 0, none⟩ = some (.int .i64 a) := fun w' h => h.cellOf (B0.out 0 _ rfl).1
  have e1 : ∀ w', Ext (w3.alloc (.cells #[.int .i64 (c - a), .int .i64 (d - b)] 113)) w' → w'.cell? ⟨w.heap.size, 1, none⟩ = some (.int .i64 b) := fun w' h => h.cellOf (B0.out 1 _ rfl).1
  have e2 : ∀ w', Ext (w3.alloc (.cells #[.int .i64 (c - a), .int .i64 (d - b)] 113)) w' → w'.cell? ⟨w.heap.size, 2, none⟩ = some (.int .i64 c) := fun w' h => h.cellOf (B0.out 2 _ rfl).1
  have e3 : ∀ w', Ext (w3.alloc (.cells #[.int .i64 (c - a), .int .i64 (d - b)] 113)) w' → w'.cell? ⟨w.heap.size, 3, none⟩ = some (.int .i64 d) := fun w' h => h.cellOf (B0.out 3 _ rfl).1
  have e4 : ∀ w', Ext (w3.alloc (.cells #[.int .i64 (c - a), .int .i64 (d - b)] 113)) w' → w'.cell? ⟨w.heap.size + 1, 0, none⟩ = some (.int .i64 p) := fun w' h => h.cellOf (B1.out 0 _ rfl).1
  have e5 : ∀ w', Ext (w3.alloc (.cells #[.int .i64 (c - a), .int .i64 (d - b)] 113)) w' → w'.cell? ⟨w.heap.size + 1, 1, none⟩ = some (.int .i64 q) := fun w' h => h.cellOf (B1.out 1 _ rfl).1
  have e6 : ∀ w', Ext (w3.alloc (.cells #[.int .i64 (c - a), .int .i64 (d - b)] 113)) w' → w'.cell? ⟨w3.heap.size, 0, none⟩ = some (.int .i64 (c - a)) := fun w' h => h.cellOf (B3.out 0 _ rfl).1
  have e7 : ∀ w', Ext (w3.alloc (.cells #[.int .i64 (c - a), .int .i64 (d - b)] 113)) w' → w'.cell? ⟨w3.heap.size, 1, none⟩ = some (.int .i64 (d - b)) := fun w' h => h.cellOf (B3.out 1 _ rfl).1
  go_region_held3 (fun w' => Ext (w3.alloc (.cells #[.int .i64 (c - a), .int .i64 (d - b)] 113)) w')
    (first | exact (Ext.refl _).drew | exact Ext.trans (by assumption) hy)
    (first | (go_at_call 137; refine (minus_any _ _ _ _ _ (by omega) (by omega) (by omega) (by omega)).mono ?_; rintro e w5 ⟨rfl, hy⟩) | (go_at_call 138; refine (dot_any _ _ _ _ _ (by omega) (by omega) (by omega) (by omega)).mono ?_; rintro e w5 ⟨rfl, hy⟩))
  clear e0 e1 e2 e3 e4 e5 e6 e7 hy
  rename_i hy
  replace B0 := Lib.hid (B0.out.ext hy)
  replace B1 := Lib.hid (B1.out.ext hy)
  replace B3 := Lib.hid (B3.out.ext hy)
  replace hx := hx.trans hy
  clear hy
  rw [show (c - a) * (c - a) + (d - b) * (d - b) = sqL a b c d from rfl, show (c - a) * (p - a) + (d - b) * (q - b) = alg a b c d p q from rfl]
  by_cases g1 : alg a b c d p q ≤ 0
  · have H := Lib.hid (show wiB a b c d p q r = false by rw [WS.out, decide_eq_true g1]; simp)
    go_wp2
    go_ret
    exact ⟨ret_bool H.out, hx⟩
  by_cases g2 : sqL a b c d ≤ alg a b c d p q
  · have H := Lib.hid (show wiB a b c d p q r = false by rw [WS.out, decide_eq_true g2]; simp)
    go_wp2
    go_ret
    exact ⟨ret_bool H.out, hx⟩
  have H := Lib.hid (show wiB a b c d p q r = decide (ab (crs a b c d p q) ≤ rt (r * r * sqL a b c d)) by
    rw [WS.out, decide_eq_false g1, decide_eq_false g2, le_rt U1 (Int.mul_nonneg R1 (by omega)), ab_sq]; simp)
  have e0 : ∀ w', Ext w5 w' → w'.cell? ⟨w.heap.size, 0, none⟩ = some (.int .i64 a) := fun w' h => h.cellOf (B0.out 0 _ rfl).1
  have e1 : ∀ w', Ext w5 w' → w'.cell? ⟨w.heap.size, 1, none⟩ = some (.int .i64 b) := fun w' h => h.cellOf (B0.out 1 _ rfl).1
  have e2 : ∀ w', Ext w5 w' → w'.cell? ⟨w.heap.size, 2, none⟩ = some (.int .i64 c) := fun w' h => h.cellOf (B0.out 2 _ rfl).1
  have e3 : ∀ w', Ext w5 w' → w'.cell? ⟨w.heap.size, 3, none⟩ = some (.int .i64 d) := fun w' h => h.cellOf (B0.out 3 _ rfl).1
  have e4 : ∀ w', Ext w5 w' → w'.cell? ⟨w.heap.size + 1, 0, none⟩ = some (.int .i64 p) := fun w' h => h.cellOf (B1.out 0 _ rfl).1
  have e5 : ∀ w', Ext w5 w' → w'.cell? ⟨w.heap.size + 1, 1, none⟩ = some (.int .i64 q) := fun w' h => h.cellOf (B1.out 1 _ rfl).1
  have e6 : ∀ w', Ext w5 w' → w'.cell? ⟨w3.heap.size, 0, none⟩ = some (.int .i64 (c - a)) := fun w' h => h.cellOf (B3.out 0 _ rfl).1
  have e7 : ∀ w', Ext w5 w' → w'.cell? ⟨w3.heap.size, 1, none⟩ = some (.int .i64 (d - b)) := fun w' h => h.cellOf (B3.out 1 _ rfl).1
  clear hy
  go_wp2_with fail
  go_region_held3 (fun w' => Ext w5 w')
    (first | exact (Ext.refl _).drew | exact Ext.trans (by assumption) hy)
    (first | (go_at_call 137; refine (minus_any _ _ _ _ _ (by omega) (by omega) (by omega) (by omega)).mono ?_; rintro e w7 ⟨rfl, hy⟩) | (go_at_call 140; refine (crossS_any _ _ _ _ _ (by omega) (by omega) (by omega) (by omega)).mono ?_; rintro e w7 ⟨rfl, hy⟩) | (go_at_call 139; refine (absS_any _ _ hT1 hT2).mono ?_; rintro e w7 ⟨rfl, hyy⟩; have hy := Ext.of_eq hyy; clear hyy) | (go_at_call 141; refine (rootOfS_any _ _ _ r0 r1 (by omega) M2).mono ?_; rintro e w7 ⟨rfl, hyy⟩; have hy := Ext.of_eq hyy; clear hyy))
  all_goals
    go_wp2
    go_ret
    exact ⟨ret_bool H.out, hx.trans (by assumption)⟩
end Go.Proofs.YtknelhceaoblhaaGreat.Win
