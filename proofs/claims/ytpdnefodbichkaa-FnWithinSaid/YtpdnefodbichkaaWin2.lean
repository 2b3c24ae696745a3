import Derived.Test.YtpdnefodbichkaaWin
import Derived.Test.YtpdnefodbichkaaRel2
import Derived.Test.YtpdnefodbichkaaIpd
namespace Go.Proofs.Ytpdnefodbichkaa.Win
open Go.ChangeShapes Go.WideShapes Go.ChangeAt Go.RowKit
open Go.Proofs.Ytpdnefodbichkaa.Num Go.Proofs.Ytpdnefodbichkaa.Kit Go.Proofs.Ytpdnefodbichkaa.Pts Go.Proofs.Ytpdnefodbichkaa.Seg Go.Proofs.Ytpdnefodbichkaa.Gcd Go.Proofs.Ytpdnefodbichkaa.Cmp Go.Proofs.Ytpdnefodbichkaa.Rt Go.Proofs.Ytpdnefodbichkaa.Wid
set_option linter.unusedVariables false
set_option linter.unusedSimpArgs false
theorem Ext.of_eq {w w' : World} (h : w = w') : Ext w w' := by subst h; exact Ext.refl _
set_option maxHeartbeats 2000000 in
theorem within_any (a b c d p q r : Int) (w : World) (ha : Co a) (hb : Co b) (hc : Co c) (hd : Co d) (hp : Co p) (hq : Co q) (hne : ¬ (a = c ∧ b = d)) (r0 : 0 ≤ r) (r1 : r ≤ 10000) :
    Calls Try.prog 33 #[Sg a b c d, Pt p q, .int .i64 r] w fun e w' => e = .returned (.bool (wiB a b c d p q r)) ∧ Ext w w' := by
  obtain ⟨M1, M2⟩ := sqL_bd ha hb hc hd hne
  obtain ⟨T1, T2⟩ := crs_bd ha hb hc hd hp hq
  have hT1 : -1000000000000000000 ≤ (c - a) * (q - b) - (d - b) * (p - a) := by have := T1; unfold crs at this; omega
  have hT2 : (c - a) * (q - b) - (d - b) * (p - a) ≤ 1000000000000000000 := by have := T2; unfold crs at this; omega
  obtain ⟨U1, U2⟩ := ab_bd T1 T2
  obtain ⟨R1, R2⟩ := nn_bd r0 r1 r0 r1
  simp only [Int.reduceMul] at R2
  have WS := wiB_spec a b c d p q r M1
  clear hne
  have B0 := Lib.hid ((Box.new4 (w := w) (n := w.heap.size) (x := .int .i64 a) (y := .int .i64 b) (z := .int .i64 c) (u := .int .i64 d) (t := 27) rfl).alloc (.cells #[.int .i64 p, .int .i64 q] 25))
  have B1 := Lib.hid (Box.new2 (w := w.alloc (.cells #[.int .i64 a, .int .i64 b, .int .i64 c, .int .i64 d] 27)) (n := w.heap.size + 1) (x := .int .i64 p) (y := .int .i64 q) (t := 25) (by simp))
  have hx := ((Ext.refl w).alloc (.cells #[.int .i64 a, .int .i64 b, .int .i64 c, .int .i64 d] 27)).alloc (.cells #[.int .i64 p, .int .i64 q] 25)
  by_cases s1 : sqD a b p q ≤ r * r
  · have H := Lib.hid (show wiB a b c d p q r = true by rw [WS, decide_eq_true s1]; rfl)
    clear WS
    obtain ⟨⟨i0, i1, i2, i3⟩, _⟩ := B0.out.four
    obtain ⟨⟨j0, j1⟩, _⟩ := B1.out.two
    go_enter Try.func33, Try.ntmps33
    go_wp2_with (go_at_call 56; refine (square_any _ _ _ _ _ (by omega) (by omega) (by omega) (by omega)).mono ?_; rintro e w1 ⟨rfl, hy⟩; replace B0 := Lib.hid (B0.out.ext hy); replace B1 := Lib.hid (B1.out.ext hy); replace hx := hx.trans hy; clear hy; (try clear i0 i1 i2 i3 j0 j1); obtain ⟨⟨i0, i1, i2, i3⟩, _⟩ := B0.out.four; obtain ⟨⟨j0, j1⟩, _⟩ := B1.out.two)
    go_ret
    exact ⟨ret_bool H.out, hx⟩
  by_cases s2 : sqD c d p q ≤ r * r
  · have H := Lib.hid (show wiB a b c d p q r = true by rw [WS, decide_eq_true s2]; simp)
    clear WS
    obtain ⟨⟨i0, i1, i2, i3⟩, _⟩ := B0.out.four
    obtain ⟨⟨j0, j1⟩, _⟩ := B1.out.two
    go_enter Try.func33, Try.ntmps33
    go_wp2_with (go_at_call 56; refine (square_any _ _ _ _ _ (by omega) (by omega) (by omega) (by omega)).mono ?_; rintro e w1 ⟨rfl, hy⟩; replace B0 := Lib.hid (B0.out.ext hy); replace B1 := Lib.hid (B1.out.ext hy); replace hx := hx.trans hy; clear hy; (try clear i0 i1 i2 i3 j0 j1); obtain ⟨⟨i0, i1, i2, i3⟩, _⟩ := B0.out.four; obtain ⟨⟨j0, j1⟩, _⟩ := B1.out.two)
    go_ret
    exact ⟨ret_bool H.out, hx⟩
  rw [decide_eq_false s1, decide_eq_false s2] at WS
  replace WS := Lib.hid WS
  obtain ⟨⟨i0, i1, i2, i3⟩, _⟩ := B0.out.four
  obtain ⟨⟨j0, j1⟩, _⟩ := B1.out.two
  go_enter Try.func33, Try.ntmps33
  go_wp2_with (go_at_call 56; refine (square_any _ _ _ _ _ (by omega) (by omega) (by omega) (by omega)).mono ?_; rintro e w1 ⟨rfl, hy⟩; replace B0 := Lib.hid (B0.out.ext hy); replace B1 := Lib.hid (B1.out.ext hy); replace hx := hx.trans hy; clear hy; (try clear i0 i1 i2 i3 j0 j1); obtain ⟨⟨i0, i1, i2, i3⟩, _⟩ := B0.out.four; obtain ⟨⟨j0, j1⟩, _⟩ := B1.out.two)
  refine (minus_any _ _ _ _ _ hc hd ha hb).mono ?_
  rintro e w3 ⟨rfl, hy⟩
  replace B0 := Lib.hid ((B0.out.ext hy).alloc (.cells #[.int .i64 (c - a), .int .i64 (d - b)] 25))
  replace B1 := Lib.hid ((B1.out.ext hy).alloc (.cells #[.int .i64 (c - a), .int .i64 (d - b)] 25))
  have B3 := Lib.hid (Box.new2 (w := w3) (n := w3.heap.size) (x := .int .i64 (c - a)) (y := .int .i64 (d - b)) (t := 25) rfl)
  replace hx := (hx.trans hy).alloc (.cells #[.int .i64 (c - a), .int .i64 (d - b)] 25)
  clear hy i0 i1 i2 i3 j0 j1
  go_wp2_with fail
  have e0 : ∀ w', Ext (w3.alloc (.cells #[.int .i64 (c - a), .int .i64 (d - b)] 25)) w' → w'.cell? ⟨w.heap.size, 0, none⟩ = some (.int .i64 a) := fun w' h => h.cellOf (B0.out 0 _ rfl).1
  have e1 : ∀ w', Ext (w3.alloc (.cells #[.int .i64 (c - a), .int .i64 (d - b)] 25)) w' → w'.cell? ⟨w.heap.size, 1, none⟩ = some (.int .i64 b) := fun w' h => h.cellOf (B0.out 1 _ rfl).1
  have e2 : ∀ w', Ext (w3.alloc (.cells #[.int .i64 (c - a), .int .i64 (d - b)] 25)) w' → w'.cell? ⟨w.heap.size, 2, none⟩ = some (.int .i64 c) := fun w' h => h.cellOf (B0.out 2 _ rfl).1
  have e3 : ∀ w', Ext (w3.alloc (.cells #[.int .i64 (c - a), .int .i64 (d - b)] 25)) w' → w'.cell? ⟨w.heap.size, 3, none⟩ = some (.int .i64 d) := fun w' h => h.cellOf (B0.out 3 _ rfl).1
  have e4 : ∀ w', Ext (w3.alloc (.cells #[.int .i64 (c - a), .int .i64 (d - b)] 25)) w' → w'.cell? ⟨w.heap.size + 1, 0, none⟩ = some (.int .i64 p) := fun w' h => h.cellOf (B1.out 0 _ rfl).1
  have e5 : ∀ w', Ext (w3.alloc (.cells #[.int .i64 (c - a), .int .i64 (d - b)] 25)) w' → w'.cell? ⟨w.heap.size + 1, 1, none⟩ = some (.int .i64 q) := fun w' h => h.cellOf (B1.out 1 _ rfl).1
  have e6 : ∀ w', Ext (w3.alloc (.cells #[.int .i64 (c - a), .int .i64 (d - b)] 25)) w' → w'.cell? ⟨w3.heap.size, 0, none⟩ = some (.int .i64 (c - a)) := fun w' h => h.cellOf (B3.out 0 _ rfl).1
  have e7 : ∀ w', Ext (w3.alloc (.cells #[.int .i64 (c - a), .int .i64 (d - b)] 25)) w' → w'.cell? ⟨w3.heap.size, 1, none⟩ = some (.int .i64 (d - b)) := fun w' h => h.cellOf (B3.out 1 _ rfl).1
  go_region_held3 (fun w' => Ext (w3.alloc (.cells #[.int .i64 (c - a), .int .i64 (d - b)] 25)) w')
    (first | exact (Ext.refl _).drew | exact Ext.trans (by assumption) hy)
    (first | (go_at_call 57; refine (minus_any _ _ _ _ _ (by omega) (by omega) (by omega) (by omega)).mono ?_; rintro e w5 ⟨rfl, hy⟩) | (go_at_call 58; refine (dot_any _ _ _ _ _ (by omega) (by omega) (by omega) (by omega)).mono ?_; rintro e w5 ⟨rfl, hy⟩))
  clear e0 e1 e2 e3 e4 e5 e6 e7 hy
  rename_i hy
  replace B0 := Lib.hid (B0.out.ext hy)
  replace B1 := Lib.hid (B1.out.ext hy)
  replace B3 := Lib.hid (B3.out.ext hy)
  replace hx := hx.trans hy
  clear hy
  rw [show (c - a) * (c - a) + (d - b) * (d - b) = sqL a b c d from rfl, show (c - a) * (p - a) + (d - b) * (q - b) = alg a b c d p q from rfl]
  by_cases g1 : alg a b c d p q ≤ 0
  · have H := Lib.hid (show wiB a b c d p q r = false by rw [WS.out, decide_eq_true g1]; simp)
    go_wp2
    go_ret
    exact ⟨ret_bool H.out, hx⟩
  by_cases g2 : sqL a b c d ≤ alg a b c d p q
  · have H := Lib.hid (show wiB a b c d p q r = false by rw [WS.out, decide_eq_true g2]; simp)
    go_wp2
    go_ret
    exact ⟨ret_bool H.out, hx⟩
  have H := Lib.hid (show wiB a b c d p q r = decide (ab (crs a b c d p q) ≤ rt (r * r * sqL a b c d)) by
    rw [WS.out, decide_eq_false g1, decide_eq_false g2, le_rt U1 (Int.mul_nonneg R1 (by omega)), ab_sq]; simp)
  have e0 : ∀ w', Ext w5 w' → w'.cell? ⟨w.heap.size, 0, none⟩ = some (.int .i64 a) := fun w' h => h.cellOf (B0.out 0 _ rfl).1
  have e1 : ∀ w', Ext w5 w' → w'.cell? ⟨w.heap.size, 1, none⟩ = some (.int .i64 b) := fun w' h => h.cellOf (B0.out 1 _ rfl).1
  have e2 : ∀ w', Ext w5 w' → w'.cell? ⟨w.heap.size, 2, none⟩ = some (.int .i64 c) := fun w' h => h.cellOf (B0.out 2 _ rfl).1
  have e3 : ∀ w', Ext w5 w' → w'.cell? ⟨w.heap.size, 3, none⟩ = some (.int .i64 d) := fun w' h => h.cellOf (B0.out 3 _ rfl).1
  have e4 : ∀ w', Ext w5 w' → w'.cell? ⟨w.heap.size + 1, 0, none⟩ = some (.int .i64 p) := fun w' h => h.cellOf (B1.out 0 _ rfl).1
  have e5 : ∀ w', Ext w5 w' → w'.cell? ⟨w.heap.size + 1, 1, none⟩ = some (.int .i64 q) := fun w' h => h.cellOf (B1.out 1 _ rfl).1
  have e6 : ∀ w', Ext w5 w' → w'.cell? ⟨w3.heap.size, 0, none⟩ = some (.int .i64 (c - a)) := fun w' h => h.cellOf (B3.out 0 _ rfl).1
  have e7 : ∀ w', Ext w5 w' → w'.cell? ⟨w3.heap.size, 1, none⟩ = some (.int .i64 (d - b)) := fun w' h => h.cellOf (B3.out 1 _ rfl).1
  clear hy
  go_wp2_with fail
  go_region_held3 (fun w' => Ext w5 w')
    (first | exact (Ext.refl _).drew | exact Ext.trans (by assumption) hy)
    (first | (go_at_call 57; refine (minus_any _ _ _ _ _ (by omega) (by omega) (by omega) (by omega)).mono ?_; rintro e w7 ⟨rfl, hy⟩) | (go_at_call 60; refine (crossS_any _ _ _ _ _ (by omega) (by omega) (by omega) (by omega)).mono ?_; rintro e w7 ⟨rfl, hy⟩) | (go_at_call 59; refine (absS_any _ _ hT1 hT2).mono ?_; rintro e w7 ⟨rfl, hyy⟩; have hy := Ext.of_eq hyy; clear hyy) | (go_at_call 61; refine (rootOfS_any _ _ _ r0 r1 (by omega) M2).mono ?_; rintro e w7 ⟨rfl, hyy⟩; have hy := Ext.of_eq hyy; clear hyy))
  all_goals
    go_wp2
    go_ret
    exact ⟨ret_bool H.out, hx.trans (by assumption)⟩
def wdB (a b c d p q r : Int) : Bool := if (sgB a b c d = true ∧ ptB p q = true) ∧ 0 ≤ r ∧ r ≤ 10000 then wiB a b c d p q r else false
def wdC (a b c d p q r : Int) : Int := if sgB a b c d = true ∧ ptB p q = true then (if 0 ≤ r ∧ r ≤ 10000 then 0 else 2) else 1
theorem withinDistance_impl (a b c d p q r : Int) (w : World) :
    Calls Try.prog 9 #[Sg a b c d, Pt p q, .int .i64 r] w fun e w' => e = .returned (.tuple #[.bool (wdB a b c d p q r), .int .i64 (wdC a b c d p q r)]) ∧ Ext w w' := by
  cases h1 : sgB a b c d
  · have HQ := Lib.hid (show wdB a b c d p q r = false from if_neg (by simp [h1]))
    have HC := Lib.hid (show wdC a b c d p q r = 1 from if_neg (by simp [h1]))
    obtain ⟨⟨i0, i1, i2, i3⟩, _⟩ := ((Box.new4 (w := w) (n := w.heap.size) (x := .int .i64 a) (y := .int .i64 b) (z := .int .i64 c) (u := .int .i64 d) (t := 27) rfl).alloc (.cells #[.int .i64 p, .int .i64 q] 25)).four
    obtain ⟨⟨j0, j1⟩, _⟩ := (Box.new2 (w := w.alloc (.cells #[.int .i64 a, .int .i64 b, .int .i64 c, .int .i64 d] 27)) (n := w.heap.size + 1) (x := .int .i64 p) (y := .int .i64 q) (t := 25) (by simp)).two
    have hx := ((Ext.refl w).alloc (.cells #[.int .i64 a, .int .i64 b, .int .i64 c, .int .i64 d] 27)).alloc (.cells #[.int .i64 p, .int .i64 q] 25)
    go_enter Try.func9, Try.ntmps9
    go_wp2_with (first | (go_at_call 26; refine (sgValid_any _ _ _ _ _).mono ?_; rintro e w1 ⟨rfl, hy⟩; replace i0 := hy.cellOf i0; replace i1 := hy.cellOf i1; replace i2 := hy.cellOf i2; replace i3 := hy.cellOf i3; replace j0 := hy.cellOf j0; replace j1 := hy.cellOf j1; replace hx := hx.trans hy; clear hy) | (go_at_call 27; refine (isValid_any _ _ _).mono ?_; rintro e w1 ⟨rfl, hy⟩; replace i0 := hy.cellOf i0; replace i1 := hy.cellOf i1; replace i2 := hy.cellOf i2; replace i3 := hy.cellOf i3; replace j0 := hy.cellOf j0; replace j1 := hy.cellOf j1; replace hx := hx.trans hy; clear hy))
    go_ret2
    exact ⟨ret_bool_int HQ.out HC.out, hx⟩
  cases h2 : ptB p q
  · have HQ := Lib.hid (show wdB a b c d p q r = false from if_neg (by simp [h2]))
    have HC := Lib.hid (show wdC a b c d p q r = 1 from if_neg (by simp [h2]))
    obtain ⟨⟨i0, i1, i2, i3⟩, _⟩ := ((Box.new4 (w := w) (n := w.heap.size) (x := .int .i64 a) (y := .int .i64 b) (z := .int .i64 c) (u := .int .i64 d) (t := 27) rfl).alloc (.cells #[.int .i64 p, .int .i64 q] 25)).four
    obtain ⟨⟨j0, j1⟩, _⟩ := (Box.new2 (w := w.alloc (.cells #[.int .i64 a, .int .i64 b, .int .i64 c, .int .i64 d] 27)) (n := w.heap.size + 1) (x := .int .i64 p) (y := .int .i64 q) (t := 25) (by simp)).two
    have hx := ((Ext.refl w).alloc (.cells #[.int .i64 a, .int .i64 b, .int .i64 c, .int .i64 d] 27)).alloc (.cells #[.int .i64 p, .int .i64 q] 25)
    go_enter Try.func9, Try.ntmps9
    go_wp2_with (first | (go_at_call 26; refine (sgValid_any _ _ _ _ _).mono ?_; rintro e w1 ⟨rfl, hy⟩; replace i0 := hy.cellOf i0; replace i1 := hy.cellOf i1; replace i2 := hy.cellOf i2; replace i3 := hy.cellOf i3; replace j0 := hy.cellOf j0; replace j1 := hy.cellOf j1; replace hx := hx.trans hy; clear hy) | (go_at_call 27; refine (isValid_any _ _ _).mono ?_; rintro e w1 ⟨rfl, hy⟩; replace i0 := hy.cellOf i0; replace i1 := hy.cellOf i1; replace i2 := hy.cellOf i2; replace i3 := hy.cellOf i3; replace j0 := hy.cellOf j0; replace j1 := hy.cellOf j1; replace hx := hx.trans hy; clear hy))
    go_ret2
    exact ⟨ret_bool_int HQ.out HC.out, hx⟩
  by_cases hr : 0 ≤ r ∧ r ≤ 10000
  rotate_left
  · have HQ := Lib.hid (show wdB a b c d p q r = false from if_neg (fun h => hr h.2))
    have HC := Lib.hid (show wdC a b c d p q r = 2 from (if_pos ⟨h1, h2⟩).trans (if_neg hr))
    have ir := inB_no hr
    by_cases hr1 : r < 0
    · clear hr
      obtain ⟨⟨i0, i1, i2, i3⟩, _⟩ := ((Box.new4 (w := w) (n := w.heap.size) (x := .int .i64 a) (y := .int .i64 b) (z := .int .i64 c) (u := .int .i64 d) (t := 27) rfl).alloc (.cells #[.int .i64 p, .int .i64 q] 25)).four
      obtain ⟨⟨j0, j1⟩, _⟩ := (Box.new2 (w := w.alloc (.cells #[.int .i64 a, .int .i64 b, .int .i64 c, .int .i64 d] 27)) (n := w.heap.size + 1) (x := .int .i64 p) (y := .int .i64 q) (t := 25) (by simp)).two
      have hx := ((Ext.refl w).alloc (.cells #[.int .i64 a, .int .i64 b, .int .i64 c, .int .i64 d] 27)).alloc (.cells #[.int .i64 p, .int .i64 q] 25)
      go_enter Try.func9, Try.ntmps9
      go_wp2_with (first | (go_at_call 28; refine (isPointDistance_any _ _).mono ?_; rintro e w1 ⟨rfl, rfl⟩) | (go_at_call 26; refine (sgValid_any _ _ _ _ _).mono ?_; rintro e w1 ⟨rfl, hy⟩; replace i0 := hy.cellOf i0; replace i1 := hy.cellOf i1; replace i2 := hy.cellOf i2; replace i3 := hy.cellOf i3; replace j0 := hy.cellOf j0; replace j1 := hy.cellOf j1; replace hx := hx.trans hy; clear hy) | (go_at_call 27; refine (isValid_any _ _ _).mono ?_; rintro e w1 ⟨rfl, hy⟩; replace i0 := hy.cellOf i0; replace i1 := hy.cellOf i1; replace i2 := hy.cellOf i2; replace i3 := hy.cellOf i3; replace j0 := hy.cellOf j0; replace j1 := hy.cellOf j1; replace hx := hx.trans hy; clear hy))
      go_ret2
      exact ⟨ret_bool_int HQ.out HC.out, hx⟩
    · have hr2 : 10000 < r := by omega
      clear hr
      obtain ⟨⟨i0, i1, i2, i3⟩, _⟩ := ((Box.new4 (w := w) (n := w.heap.size) (x := .int .i64 a) (y := .int .i64 b) (z := .int .i64 c) (u := .int .i64 d) (t := 27) rfl).alloc (.cells #[.int .i64 p, .int .i64 q] 25)).four
      obtain ⟨⟨j0, j1⟩, _⟩ := (Box.new2 (w := w.alloc (.cells #[.int .i64 a, .int .i64 b, .int .i64 c, .int .i64 d] 27)) (n := w.heap.size + 1) (x := .int .i64 p) (y := .int .i64 q) (t := 25) (by simp)).two
      have hx := ((Ext.refl w).alloc (.cells #[.int .i64 a, .int .i64 b, .int .i64 c, .int .i64 d] 27)).alloc (.cells #[.int .i64 p, .int .i64 q] 25)
      go_enter Try.func9, Try.ntmps9
      go_wp2_with (first | (go_at_call 28; refine (isPointDistance_any _ _).mono ?_; rintro e w1 ⟨rfl, rfl⟩) | (go_at_call 26; refine (sgValid_any _ _ _ _ _).mono ?_; rintro e w1 ⟨rfl, hy⟩; replace i0 := hy.cellOf i0; replace i1 := hy.cellOf i1; replace i2 := hy.cellOf i2; replace i3 := hy.cellOf i3; replace j0 := hy.cellOf j0; replace j1 := hy.cellOf j1; replace hx := hx.trans hy; clear hy) | (go_at_call 27; refine (isValid_any _ _ _).mono ?_; rintro e w1 ⟨rfl, hy⟩; replace i0 := hy.cellOf i0; replace i1 := hy.cellOf i1; replace i2 := hy.cellOf i2; replace i3 := hy.cellOf i3; replace j0 := hy.cellOf j0; replace j1 := hy.cellOf j1; replace hx := hx.trans hy; clear hy))
      go_ret2
      exact ⟨ret_bool_int HQ.out HC.out, hx⟩
  · have HQ := Lib.hid (show wdB a b c d p q r = wiB a b c d p q r from if_pos ⟨⟨h1, h2⟩, hr⟩)
    have HC := Lib.hid (show wdC a b c d p q r = 0 from (if_pos ⟨h1, h2⟩).trans (if_pos hr))
    have ir := inB_yes hr.1 hr.2
    obtain ⟨hr1, hr2⟩ := hr
    obtain ⟨⟨ha, hb, hc, hd⟩, hne⟩ := sgB_yes h1
    obtain ⟨hp, hq⟩ := ptB_yes h2
    replace hne := Lib.hid hne
    obtain ⟨⟨i0, i1, i2, i3⟩, _⟩ := ((Box.new4 (w := w) (n := w.heap.size) (x := .int .i64 a) (y := .int .i64 b) (z := .int .i64 c) (u := .int .i64 d) (t := 27) rfl).alloc (.cells #[.int .i64 p, .int .i64 q] 25)).four
    obtain ⟨⟨j0, j1⟩, _⟩ := (Box.new2 (w := w.alloc (.cells #[.int .i64 a, .int .i64 b, .int .i64 c, .int .i64 d] 27)) (n := w.heap.size + 1) (x := .int .i64 p) (y := .int .i64 q) (t := 25) (by simp)).two
    have hx := ((Ext.refl w).alloc (.cells #[.int .i64 a, .int .i64 b, .int .i64 c, .int .i64 d] 27)).alloc (.cells #[.int .i64 p, .int .i64 q] 25)
    go_enter Try.func9, Try.ntmps9
    go_wp2_with (first | (go_at_call 28; refine (isPointDistance_any _ _).mono ?_; rintro e w1 ⟨rfl, rfl⟩) | (go_at_call 26; refine (sgValid_any _ _ _ _ _).mono ?_; rintro e w1 ⟨rfl, hy⟩; replace i0 := hy.cellOf i0; replace i1 := hy.cellOf i1; replace i2 := hy.cellOf i2; replace i3 := hy.cellOf i3; replace j0 := hy.cellOf j0; replace j1 := hy.cellOf j1; replace hx := hx.trans hy; clear hy) | (go_at_call 27; refine (isValid_any _ _ _).mono ?_; rintro e w1 ⟨rfl, hy⟩; replace i0 := hy.cellOf i0; replace i1 := hy.cellOf i1; replace i2 := hy.cellOf i2; replace i3 := hy.cellOf i3; replace j0 := hy.cellOf j0; replace j1 := hy.cellOf j1; replace hx := hx.trans hy; clear hy) | (go_at_call 29; refine (isNear_any _ _ _ _ _ _ _ _ ha hb hc hd hp hq hne.out hr1 hr2).mono ?_; rintro e w1 ⟨rfl, hy⟩; replace i0 := hy.cellOf i0; replace i1 := hy.cellOf i1; replace i2 := hy.cellOf i2; replace i3 := hy.cellOf i3; replace j0 := hy.cellOf j0; replace j1 := hy.cellOf j1; replace hx := hx.trans hy; clear hy))
    go_ret2
    exact ⟨ret_bool_int HQ.out HC.out, hx⟩
theorem withinDistance_spec (a b c d p q r : Int) (w : World) :
    Calls Try.prog 10 #[Sg a b c d, Pt p q, .int .i64 r] w fun e w' => e = .returned (.tuple #[.bool (wdB a b c d p q r), .int .i64 (wdC a b c d p q r)]) ∧ Ext w w' := by
  cases h1 : sgB a b c d
  · have HQ := Lib.hid (show wdB a b c d p q r = false from if_neg (by simp [h1]))
    have HC := Lib.hid (show wdC a b c d p q r = 1 from if_neg (by simp [h1]))
    obtain ⟨⟨i0, i1, i2, i3⟩, _⟩ := ((Box.new4 (w := w) (n := w.heap.size) (x := .int .i64 a) (y := .int .i64 b) (z := .int .i64 c) (u := .int .i64 d) (t := 27) rfl).alloc (.cells #[.int .i64 p, .int .i64 q] 25)).four
    obtain ⟨⟨j0, j1⟩, _⟩ := (Box.new2 (w := w.alloc (.cells #[.int .i64 a, .int .i64 b, .int .i64 c, .int .i64 d] 27)) (n := w.heap.size + 1) (x := .int .i64 p) (y := .int .i64 q) (t := 25) (by simp)).two
    have hx := ((Ext.refl w).alloc (.cells #[.int .i64 a, .int .i64 b, .int .i64 c, .int .i64 d] 27)).alloc (.cells #[.int .i64 p, .int .i64 q] 25)
    go_enter Try.func10, Try.ntmps10
    go_wp2_with (first | (go_at_call 30; refine (isSegment_spec _ _ _ _ _).mono ?_; rintro e w1 ⟨rfl, hy⟩; replace i0 := hy.cellOf i0; replace i1 := hy.cellOf i1; replace i2 := hy.cellOf i2; replace i3 := hy.cellOf i3; replace j0 := hy.cellOf j0; replace j1 := hy.cellOf j1; replace hx := hx.trans hy; clear hy) | (go_at_call 31; refine (isPoint_spec _ _ _).mono ?_; rintro e w1 ⟨rfl, hy⟩; replace i0 := hy.cellOf i0; replace i1 := hy.cellOf i1; replace i2 := hy.cellOf i2; replace i3 := hy.cellOf i3; replace j0 := hy.cellOf j0; replace j1 := hy.cellOf j1; replace hx := hx.trans hy; clear hy) | (go_at_call 32; refine (in_any _ _ _ _).mono ?_; rintro e w' ⟨rfl, rfl⟩))
    go_ret2
    exact ⟨ret_bool_int HQ.out HC.out, hx⟩
  cases h2 : ptB p q
  · have HQ := Lib.hid (show wdB a b c d p q r = false from if_neg (by simp [h2]))
    have HC := Lib.hid (show wdC a b c d p q r = 1 from if_neg (by simp [h2]))
    obtain ⟨⟨i0, i1, i2, i3⟩, _⟩ := ((Box.new4 (w := w) (n := w.heap.size) (x := .int .i64 a) (y := .int .i64 b) (z := .int .i64 c) (u := .int .i64 d) (t := 27) rfl).alloc (.cells #[.int .i64 p, .int .i64 q] 25)).four
    obtain ⟨⟨j0, j1⟩, _⟩ := (Box.new2 (w := w.alloc (.cells #[.int .i64 a, .int .i64 b, .int .i64 c, .int .i64 d] 27)) (n := w.heap.size + 1) (x := .int .i64 p) (y := .int .i64 q) (t := 25) (by simp)).two
    have hx := ((Ext.refl w).alloc (.cells #[.int .i64 a, .int .i64 b, .int .i64 c, .int .i64 d] 27)).alloc (.cells #[.int .i64 p, .int .i64 q] 25)
    go_enter Try.func10, Try.ntmps10
    go_wp2_with (first | (go_at_call 30; refine (isSegment_spec _ _ _ _ _).mono ?_; rintro e w1 ⟨rfl, hy⟩; replace i0 := hy.cellOf i0; replace i1 := hy.cellOf i1; replace i2 := hy.cellOf i2; replace i3 := hy.cellOf i3; replace j0 := hy.cellOf j0; replace j1 := hy.cellOf j1; replace hx := hx.trans hy; clear hy) | (go_at_call 31; refine (isPoint_spec _ _ _).mono ?_; rintro e w1 ⟨rfl, hy⟩; replace i0 := hy.cellOf i0; replace i1 := hy.cellOf i1; replace i2 := hy.cellOf i2; replace i3 := hy.cellOf i3; replace j0 := hy.cellOf j0; replace j1 := hy.cellOf j1; replace hx := hx.trans hy; clear hy) | (go_at_call 32; refine (in_any _ _ _ _).mono ?_; rintro e w' ⟨rfl, rfl⟩))
    go_ret2
    exact ⟨ret_bool_int HQ.out HC.out, hx⟩
  by_cases hr : 0 ≤ r ∧ r ≤ 10000
  rotate_left
  · have HQ := Lib.hid (show wdB a b c d p q r = false from if_neg (fun h => hr h.2))
    have HC := Lib.hid (show wdC a b c d p q r = 2 from (if_pos ⟨h1, h2⟩).trans (if_neg hr))
    have ir := inB_no hr
    by_cases hr1 : r < 0
    · clear hr
      obtain ⟨⟨i0, i1, i2, i3⟩, _⟩ := ((Box.new4 (w := w) (n := w.heap.size) (x := .int .i64 a) (y := .int .i64 b) (z := .int .i64 c) (u := .int .i64 d) (t := 27) rfl).alloc (.cells #[.int .i64 p, .int .i64 q] 25)).four
      obtain ⟨⟨j0, j1⟩, _⟩ := (Box.new2 (w := w.alloc (.cells #[.int .i64 a, .int .i64 b, .int .i64 c, .int .i64 d] 27)) (n := w.heap.size + 1) (x := .int .i64 p) (y := .int .i64 q) (t := 25) (by simp)).two
      have hx := ((Ext.refl w).alloc (.cells #[.int .i64 a, .int .i64 b, .int .i64 c, .int .i64 d] 27)).alloc (.cells #[.int .i64 p, .int .i64 q] 25)
      go_enter Try.func10, Try.ntmps10
      go_wp2_with (first | (go_at_call 30; refine (isSegment_spec _ _ _ _ _).mono ?_; rintro e w1 ⟨rfl, hy⟩; replace i0 := hy.cellOf i0; replace i1 := hy.cellOf i1; replace i2 := hy.cellOf i2; replace i3 := hy.cellOf i3; replace j0 := hy.cellOf j0; replace j1 := hy.cellOf j1; replace hx := hx.trans hy; clear hy) | (go_at_call 31; refine (isPoint_spec _ _ _).mono ?_; rintro e w1 ⟨rfl, hy⟩; replace i0 := hy.cellOf i0; replace i1 := hy.cellOf i1; replace i2 := hy.cellOf i2; replace i3 := hy.cellOf i3; replace j0 := hy.cellOf j0; replace j1 := hy.cellOf j1; replace hx := hx.trans hy; clear hy) | (go_at_call 32; refine (in_any _ _ _ _).mono ?_; rintro e w' ⟨rfl, rfl⟩))
      go_ret2
      exact ⟨ret_bool_int HQ.out HC.out, hx⟩
    · have hr2 : 10000 < r := by omega
      clear hr
      obtain ⟨⟨i0, i1, i2, i3⟩, _⟩ := ((Box.new4 (w := w) (n := w.heap.size) (x := .int .i64 a) (y := .int .i64 b) (z := .int .i64 c) (u := .int .i64 d) (t := 27) rfl).alloc (.cells #[.int .i64 p, .int .i64 q] 25)).four
      obtain ⟨⟨j0, j1⟩, _⟩ := (Box.new2 (w := w.alloc (.cells #[.int .i64 a, .int .i64 b, .int .i64 c, .int .i64 d] 27)) (n := w.heap.size + 1) (x := .int .i64 p) (y := .int .i64 q) (t := 25) (by simp)).two
      have hx := ((Ext.refl w).alloc (.cells #[.int .i64 a, .int .i64 b, .int .i64 c, .int .i64 d] 27)).alloc (.cells #[.int .i64 p, .int .i64 q] 25)
      go_enter Try.func10, Try.ntmps10
      go_wp2_with (first | (go_at_call 30; refine (isSegment_spec _ _ _ _ _).mono ?_; rintro e w1 ⟨rfl, hy⟩; replace i0 := hy.cellOf i0; replace i1 := hy.cellOf i1; replace i2 := hy.cellOf i2; replace i3 := hy.cellOf i3; replace j0 := hy.cellOf j0; replace j1 := hy.cellOf j1; replace hx := hx.trans hy; clear hy) | (go_at_call 31; refine (isPoint_spec _ _ _).mono ?_; rintro e w1 ⟨rfl, hy⟩; replace i0 := hy.cellOf i0; replace i1 := hy.cellOf i1; replace i2 := hy.cellOf i2; replace i3 := hy.cellOf i3; replace j0 := hy.cellOf j0; replace j1 := hy.cellOf j1; replace hx := hx.trans hy; clear hy) | (go_at_call 32; refine (in_any _ _ _ _).mono ?_; rintro e w' ⟨rfl, rfl⟩))
      go_ret2
      exact ⟨ret_bool_int HQ.out HC.out, hx⟩
  · have HQ := Lib.hid (show wdB a b c d p q r = wiB a b c d p q r from if_pos ⟨⟨h1, h2⟩, hr⟩)
    have HC := Lib.hid (show wdC a b c d p q r = 0 from (if_pos ⟨h1, h2⟩).trans (if_pos hr))
    have ir := inB_yes hr.1 hr.2
    obtain ⟨hr1, hr2⟩ := hr
    obtain ⟨⟨ha, hb, hc, hd⟩, hne⟩ := sgB_yes h1
    obtain ⟨hp, hq⟩ := ptB_yes h2
    replace hne := Lib.hid hne
    obtain ⟨⟨i0, i1, i2, i3⟩, _⟩ := ((Box.new4 (w := w) (n := w.heap.size) (x := .int .i64 a) (y := .int .i64 b) (z := .int .i64 c) (u := .int .i64 d) (t := 27) rfl).alloc (.cells #[.int .i64 p, .int .i64 q] 25)).four
    obtain ⟨⟨j0, j1⟩, _⟩ := (Box.new2 (w := w.alloc (.cells #[.int .i64 a, .int .i64 b, .int .i64 c, .int .i64 d] 27)) (n := w.heap.size + 1) (x := .int .i64 p) (y := .int .i64 q) (t := 25) (by simp)).two
    have hx := ((Ext.refl w).alloc (.cells #[.int .i64 a, .int .i64 b, .int .i64 c, .int .i64 d] 27)).alloc (.cells #[.int .i64 p, .int .i64 q] 25)
    go_enter Try.func10, Try.ntmps10
    go_wp2_with (first | (go_at_call 30; refine (isSegment_spec _ _ _ _ _).mono ?_; rintro e w1 ⟨rfl, hy⟩; replace i0 := hy.cellOf i0; replace i1 := hy.cellOf i1; replace i2 := hy.cellOf i2; replace i3 := hy.cellOf i3; replace j0 := hy.cellOf j0; replace j1 := hy.cellOf j1; replace hx := hx.trans hy; clear hy) | (go_at_call 31; refine (isPoint_spec _ _ _).mono ?_; rintro e w1 ⟨rfl, hy⟩; replace i0 := hy.cellOf i0; replace i1 := hy.cellOf i1; replace i2 := hy.cellOf i2; replace i3 := hy.cellOf i3; replace j0 := hy.cellOf j0; replace j1 := hy.cellOf j1; replace hx := hx.trans hy; clear hy) | (go_at_call 32; refine (in_any _ _ _ _).mono ?_; rintro e w' ⟨rfl, rfl⟩) | (go_at_call 33; refine (within_any _ _ _ _ _ _ _ _ ha hb hc hd hp hq hne.out hr1 hr2).mono ?_; rintro e w1 ⟨rfl, hy⟩; replace i0 := hy.cellOf i0; replace i1 := hy.cellOf i1; replace i2 := hy.cellOf i2; replace i3 := hy.cellOf i3; replace j0 := hy.cellOf j0; replace j1 := hy.cellOf j1; replace hx := hx.trans hy; clear hy))
    go_ret2
    exact ⟨ret_bool_int HQ.out HC.out, hx⟩
end Go.Proofs.Ytpdnefodbichkaa.Win
