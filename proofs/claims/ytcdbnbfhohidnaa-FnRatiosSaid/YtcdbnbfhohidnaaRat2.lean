/- Contracts of CompareRatios (impl, spec), for all ratios. -/
import Derived.Test.YtcdbnbfhohidnaaRat
namespace Go.Proofs.Ytcdbnbfhohidnaa.Cmp
open Go.ChangeShapes Go.WideShapes Go.ChangeAt Go.RowKit
open Go.Proofs.Ytcdbnbfhohidnaa.Num Go.Proofs.Ytcdbnbfhohidnaa.Kit Go.Proofs.Ytcdbnbfhohidnaa.Pts
set_option linter.unusedVariables false
set_option linter.unusedSimpArgs false

theorem compareProducts_int (a b c d : Int) (w : World) (a0 : 0 ≤ a) (ha : a ≤ 1000000000000000000) (b0 : 0 ≤ b) (hb : b ≤ 1000000000000000000) (c0 : 0 ≤ c) (hc : c ≤ 1000000000000000000) (d0 : 0 ≤ d) (hd : d ≤ 1000000000000000000) :
    Calls Try.prog 67 #[.int .i64 a, .int .i64 b, .int .i64 c, .int .i64 d] w fun e w' => e = .returned (.int .i64 (cmpZ (a * b) (c * d))) ∧ Ext w w' := by
  obtain ⟨a, rfl⟩ := Int.eq_ofNat_of_zero_le a0
  obtain ⟨b, rfl⟩ := Int.eq_ofNat_of_zero_le b0
  obtain ⟨c, rfl⟩ := Int.eq_ofNat_of_zero_le c0
  obtain ⟨d, rfl⟩ := Int.eq_ofNat_of_zero_le d0
  exact compareProducts_any a b c d w (by omega) (by omega) (by omega) (by omega)

/-- What both CompareRatios answer. -/
def crQ (x y u v : Int) : Int := if raB x y (-1) = true ∧ raB u v (-1) = true then cmpZ (x * v) (u * y) else 0
def crC (x y u v : Int) : Int := if raB x y (-1) = true ∧ raB u v (-1) = true then 0 else 2
theorem cr_shift (x y u v : Int) : cmpZ ((x + y) * v) ((u + v) * y) = cmpZ (x * v) (u * y) := cmpZ_shift (by grind)

theorem compareRatios_impl (x y u v : Int) (w : World) : Calls Try.prog 31 #[Pt x y, Pt u v] w fun e w' => e = .returned (.tuple #[.int .i64 (crQ x y u v), .int .i64 (crC x y u v)]) ∧ Ext w w' := by
  cases h1 : raB x y (-1)
  · have HQ := Lib.hid (show crQ x y u v = 0 from if_neg (by simp [h1]))
    have HC := Lib.hid (show crC x y u v = 2 from if_neg (by simp [h1]))
    obtain ⟨c1, c2, c3, c4⟩ := boxes2 w 33 x y u v
    have hx := ((Ext.refl w).alloc (.cells #[.int .i64 x, .int .i64 y] 33)).alloc (.cells #[.int .i64 u, .int .i64 v] 33)
    go_enter Try.func31, Try.ntmps31
    go_wp2_with (go_at_call 54; refine (isWithinm_any _ _ _).mono ?_; rintro e w1 ⟨rfl, hy⟩; replace c1 := hy.cellOf c1; replace c2 := hy.cellOf c2; replace c3 := hy.cellOf c3; replace c4 := hy.cellOf c4; replace hx := hx.trans hy; clear hy)
    go_ret2
    exact ⟨ret_int2 HQ.out HC.out, hx⟩
  cases h2 : raB u v (-1)
  · have HQ := Lib.hid (show crQ x y u v = 0 from if_neg (by simp [h2]))
    have HC := Lib.hid (show crC x y u v = 2 from if_neg (by simp [h2]))
    obtain ⟨c1, c2, c3, c4⟩ := boxes2 w 33 x y u v
    have hx := ((Ext.refl w).alloc (.cells #[.int .i64 x, .int .i64 y] 33)).alloc (.cells #[.int .i64 u, .int .i64 v] 33)
    go_enter Try.func31, Try.ntmps31
    go_wp2_with (go_at_call 54; refine (isWithinm_any _ _ _).mono ?_; rintro e w1 ⟨rfl, hy⟩; replace c1 := hy.cellOf c1; replace c2 := hy.cellOf c2; replace c3 := hy.cellOf c3; replace c4 := hy.cellOf c4; replace hx := hx.trans hy; clear hy)
    go_ret2
    exact ⟨ret_int2 HQ.out HC.out, hx⟩
  · have HQ := Lib.hid (show crQ x y u v = cmpZ ((x + y) * v) ((u + v) * y) from (if_pos ⟨h1, h2⟩).trans (cr_shift x y u v).symm)
    have HC := Lib.hid (show crC x y u v = 0 from if_pos ⟨h1, h2⟩)
    obtain ⟨y1, y2, x1, x2⟩ := raB_yes h1
    obtain ⟨v1, v2, u1, u2⟩ := raB_yes h2
    obtain ⟨c1, c2, c3, c4⟩ := boxes2 w 33 x y u v
    have hx := ((Ext.refl w).alloc (.cells #[.int .i64 x, .int .i64 y] 33)).alloc (.cells #[.int .i64 u, .int .i64 v] 33)
    go_enter Try.func31, Try.ntmps31
    go_wp2_with (first | (go_at_call 54; refine (isWithinm_any _ _ _).mono ?_; rintro e w1 ⟨rfl, hy⟩; replace c1 := hy.cellOf c1; replace c2 := hy.cellOf c2; replace c3 := hy.cellOf c3; replace c4 := hy.cellOf c4; replace hx := hx.trans hy; clear hy) | (go_at_call 67; refine (compareProducts_int _ _ _ _ _ (by omega) (by omega) (by omega) (by omega) (by omega) (by omega) (by omega) (by omega)).mono ?_; rintro e w1 ⟨rfl, hy⟩; replace c1 := hy.cellOf c1; replace c2 := hy.cellOf c2; replace c3 := hy.cellOf c3; replace c4 := hy.cellOf c4; replace hx := hx.trans hy; clear hy))
    go_ret2
    exact ⟨ret_int2 HQ.out HC.out, hx⟩

theorem compareRatios_spec (x y u v : Int) (w : World) : Calls Try.prog 32 #[Pt x y, Pt u v] w fun e w' => e = .returned (.tuple #[.int .i64 (crQ x y u v), .int .i64 (crC x y u v)]) ∧ Ext w w' := by
  by_cases ky : 1 ≤ y ∧ y ≤ 100000000000000
  rotate_left
  · have hr : raB x y (-1) = false := by
      cases hh : raB x y (-1)
      · rfl
      · exfalso; have := raB_yes hh; omega
    have HQ := Lib.hid (show crQ x y u v = 0 from if_neg (by simp [hr]))
    have HC := Lib.hid (show crC x y u v = 2 from if_neg (by simp [hr]))
    have iy := inB_no ky
    clear hr ky
    obtain ⟨c1, c2, c3, c4⟩ := boxes2 w 33 x y u v
    have hx := ((Ext.refl w).alloc (.cells #[.int .i64 x, .int .i64 y] 33)).alloc (.cells #[.int .i64 u, .int .i64 v] 33)
    go_enter Try.func32, Try.ntmps32
    go_wp2_with (go_at_call 57; refine (in_any _ _ _ _).mono ?_; rintro e w' ⟨rfl, rfl⟩)
    go_ret2
    exact ⟨ret_int2 HQ.out HC.out, hx⟩
  have iy := inB_yes ky.1 ky.2
  by_cases kv : 1 ≤ v ∧ v ≤ 100000000000000
  rotate_left
  · have hr : raB u v (-1) = false := by
      cases hh : raB u v (-1)
      · rfl
      · exfalso; have := raB_yes hh; omega
    have HQ := Lib.hid (show crQ x y u v = 0 from if_neg (by simp [hr]))
    have HC := Lib.hid (show crC x y u v = 2 from if_neg (by simp [hr]))
    have iv := inB_no kv
    clear hr kv
    obtain ⟨c1, c2, c3, c4⟩ := boxes2 w 33 x y u v
    have hx := ((Ext.refl w).alloc (.cells #[.int .i64 x, .int .i64 y] 33)).alloc (.cells #[.int .i64 u, .int .i64 v] 33)
    go_enter Try.func32, Try.ntmps32
    go_wp2_with (go_at_call 57; refine (in_any _ _ _ _).mono ?_; rintro e w' ⟨rfl, rfl⟩)
    go_ret2
    exact ⟨ret_int2 HQ.out HC.out, hx⟩
  have iv := inB_yes kv.1 kv.2
  by_cases kx : -y ≤ x ∧ x ≤ y
  rotate_left
  · have hr : raB x y (-1) = false := by
      cases hh : raB x y (-1)
      · rfl
      · exfalso; have := raB_yes hh; omega
    have HQ := Lib.hid (show crQ x y u v = 0 from if_neg (by simp [hr]))
    have HC := Lib.hid (show crC x y u v = 2 from if_neg (by simp [hr]))
    have ix := inB_no kx
    clear hr kx
    obtain ⟨c1, c2, c3, c4⟩ := boxes2 w 33 x y u v
    have hx := ((Ext.refl w).alloc (.cells #[.int .i64 x, .int .i64 y] 33)).alloc (.cells #[.int .i64 u, .int .i64 v] 33)
    go_enter Try.func32, Try.ntmps32
    go_wp2_with (go_at_call 57; refine (in_any _ _ _ _).mono ?_; rintro e w' ⟨rfl, rfl⟩)
    go_ret2
    exact ⟨ret_int2 HQ.out HC.out, hx⟩
  have ix := inB_yes kx.1 kx.2
  by_cases ku : -v ≤ u ∧ u ≤ v
  rotate_left
  · have hr : raB u v (-1) = false := by
      cases hh : raB u v (-1)
      · rfl
      · exfalso; have := raB_yes hh; omega
    have HQ := Lib.hid (show crQ x y u v = 0 from if_neg (by simp [hr]))
    have HC := Lib.hid (show crC x y u v = 2 from if_neg (by simp [hr]))
    have iu := inB_no ku
    clear hr ku
    obtain ⟨c1, c2, c3, c4⟩ := boxes2 w 33 x y u v
    have hx := ((Ext.refl w).alloc (.cells #[.int .i64 x, .int .i64 y] 33)).alloc (.cells #[.int .i64 u, .int .i64 v] 33)
    go_enter Try.func32, Try.ntmps32
    go_wp2_with (go_at_call 57; refine (in_any _ _ _ _).mono ?_; rintro e w' ⟨rfl, rfl⟩)
    go_ret2
    exact ⟨ret_int2 HQ.out HC.out, hx⟩
  have iu := inB_yes ku.1 ku.2
  have h1 : raB x y (-1) = true := by unfold raB; rw [decide_eq_true ky.1, decide_eq_true ky.2, decide_eq_true (by omega : -1 * y ≤ x), decide_eq_true kx.2]; rfl
  have h2 : raB u v (-1) = true := by unfold raB; rw [decide_eq_true kv.1, decide_eq_true kv.2, decide_eq_true (by omega : -1 * v ≤ u), decide_eq_true ku.2]; rfl
  have HQ := Lib.hid (show crQ x y u v = cmpZ (x * v) (u * y) from if_pos ⟨h1, h2⟩)
  have HC := Lib.hid (show crC x y u v = 0 from if_pos ⟨h1, h2⟩)
  clear h1 h2
  obtain ⟨c1, c2, c3, c4⟩ := boxes2 w 33 x y u v
  have hx := ((Ext.refl w).alloc (.cells #[.int .i64 x, .int .i64 y] 33)).alloc (.cells #[.int .i64 u, .int .i64 v] 33)
  go_enter Try.func32, Try.ntmps32
  go_wp2_with (first | (go_at_call 57; refine (in_any _ _ _ _).mono ?_; rintro e w' ⟨rfl, rfl⟩) | (go_at_call 68; refine (compareS_any _ _ _ _ _ (by omega) (by omega) (by omega) (by omega) (by omega) (by omega) (by omega) (by omega)).mono ?_; rintro e w1 ⟨rfl, hy⟩; replace c1 := hy.cellOf c1; replace c2 := hy.cellOf c2; replace c3 := hy.cellOf c3; replace c4 := hy.cellOf c4; replace hx := hx.trans hy; clear hy))
  go_ret2
  exact ⟨ret_int2 HQ.out HC.out, hx⟩

end Go.Proofs.Ytcdbnbfhohidnaa.Cmp
