/- Contracts of CompareCrossings (impl, spec). -/
import Derived.Test.YtccggjhmnbebbaaMom2
namespace Go.Proofs.Ytccggjhmnbebbaa.Trk
open Go.ChangeShapes Go.WideShapes Go.ChangeAt Go.RowKit
open Go.Proofs.Ytccggjhmnbebbaa.Num Go.Proofs.Ytccggjhmnbebbaa.Kit Go.Proofs.Ytccggjhmnbebbaa.Pts Go.Proofs.Ytccggjhmnbebbaa.Seg Go.Proofs.Ytccggjhmnbebbaa.Div Go.Proofs.Ytccggjhmnbebbaa.Cmp
set_option linter.unusedVariables false
set_option linter.unusedSimpArgs false

theorem or64_any (B : Nat) (x y : Int) (w : World) (h0 : w.cell? ⟨B, 0, none⟩ = some (.int .i64 x)) (h1 : w.cell? ⟨B, 1, none⟩ = some (.int .i64 y)) :
    Calls Try.prog 66 #[.slice (some ⟨B, 0, none⟩) 2 2] w fun e w' => e = .returned (.int .i64 (orZ x y)) ∧ w = w' := by
  go_enter Try.func66, Try.ntmps66
  go_wp2
  go_loop [8] (fun s => RelO x y s) (fun s => 2 - (intOf s).toNat)
  case atStart => exact .inl rfl
  case round =>
    rcases hrel with rfl | ⟨rfl, hx⟩ | ⟨rfl, hx, hy⟩
    · by_cases hx : x = 0
      · have hx1 : (x == 0) = true := beq_iff_eq.2 hx
        have HX := Lib.hid hx
        clear hx
        go_wp2
        go_round
        case rel => exact .inr (.inl ⟨rfl, HX.out⟩)
        case measure => simp [intOf]
      · have hx1 : (x == 0) = false := beq_eq_false_iff_ne.2 hx
        have H := Lib.hid (show orZ x y = x from if_neg hx)
        clear hx
        go_wp2
        go_ret
        exact ⟨ret_int H.out, rfl⟩
    · have HX := Lib.hid hx
      clear hx
      by_cases hy : y = 0
      · have hy1 : (y == 0) = true := beq_iff_eq.2 hy
        have HY := Lib.hid hy
        clear hy
        go_wp2
        go_round
        case rel => exact .inr (.inr ⟨rfl, HX.out, HY.out⟩)
        case measure => simp [intOf]
      · have hy1 : (y == 0) = false := beq_eq_false_iff_ne.2 hy
        have H := Lib.hid (show orZ x y = y from if_pos HX.out)
        clear hy
        go_wp2
        go_ret
        exact ⟨ret_int H.out, rfl⟩
    · have H := Lib.hid (show orZ x y = 0 by unfold orZ; rw [if_pos hx, hy])
      clear hx hy
      go_wp2
      go_ret
      exact ⟨ret_int H.out, rfl⟩

/-- Two exact times, compared. -/
def cmI (w1 r1 y1 w2 r2 y2 : Int) : Int := orZ (sgn (w1 - w2)) (cmpZ (r1 * y2) (r2 * y1))

theorem moment_any (w1 r1 y1 w2 r2 y2 : Int) (w : World) (a0 : 0 ≤ w1) (a1 : w1 ≤ 1000000000) (b0 : 0 ≤ w2) (b1 : w2 ≤ 1000000000) (c0 : 0 ≤ r1) (c1 : r1 ≤ y1) (d0 : 1 ≤ y1) (d1 : y1 ≤ 100000000000000) (e0 : 0 ≤ r2) (e1 : r2 ≤ y2) (f0 : 1 ≤ y2) (f1 : y2 ≤ 100000000000000) :
    Calls Try.prog 39 #[Fx w1 r1 y1, Fx w2 r2 y2] w fun e w' => e = .returned (.int .i64 (cmI w1 r1 y1 w2 r2 y2)) ∧ Ext w w' := by
  have H := Lib.hid (show cmI w1 r1 y1 w2 r2 y2 = orZ (sgn (w1 - w2)) (cmpZ (r1 * y2) (r2 * y1)) from rfl)
  obtain ⟨W0, hW0⟩ : ∃ W0, W0 = (w.alloc (.cells #[.int .i64 w1, .int .i64 r1, .int .i64 y1] 78)).alloc (.cells #[.int .i64 w2, .int .i64 r2, .int .i64 y2] 78) := ⟨_, rfl⟩
  have hX : Ext w W0 := hW0 ▸ (((Ext.refl w).alloc _).alloc _)
  have hs0 : W0.heap.size = w.heap.size + 1 + 1 := by rw [hW0]; simp
  have e00 : ∀ w', (Ext W0) w' → w'.cell? ⟨w.heap.size, 0, none⟩ = some (.int .i64 w1) := fun w' h => h.cellOf (by rw [hW0]; exact ((Ext.refl _).alloc _).cellOf (boxed 0 rfl (by simp)))
  have e01 : ∀ w', (Ext W0) w' → w'.cell? ⟨w.heap.size, 1, none⟩ = some (.int .i64 r1) := fun w' h => h.cellOf (by rw [hW0]; exact ((Ext.refl _).alloc _).cellOf (boxed 1 rfl (by simp)))
  have e02 : ∀ w', (Ext W0) w' → w'.cell? ⟨w.heap.size, 2, none⟩ = some (.int .i64 y1) := fun w' h => h.cellOf (by rw [hW0]; exact ((Ext.refl _).alloc _).cellOf (boxed 2 rfl (by simp)))
  have e10 : ∀ w', (Ext W0) w' → w'.cell? ⟨w.heap.size + 1, 0, none⟩ = some (.int .i64 w2) := fun w' h => h.cellOf (by rw [hW0]; exact boxed 0 rfl (by simp))
  have e11 : ∀ w', (Ext W0) w' → w'.cell? ⟨w.heap.size + 1, 1, none⟩ = some (.int .i64 r2) := fun w' h => h.cellOf (by rw [hW0]; exact boxed 1 rfl (by simp))
  have e12 : ∀ w', (Ext W0) w' → w'.cell? ⟨w.heap.size + 1, 2, none⟩ = some (.int .i64 y2) := fun w' h => h.cellOf (by rw [hW0]; exact boxed 2 rfl (by simp))
  have hr0 := Ext.refl W0
  go_enter Try.func39, Try.ntmps39
  go_wp2_with fail
  refine (compareProducts_int _ _ _ _ _ (by omega) (by omega) (by omega) (by omega) (by omega) (by omega) (by omega) (by omega)).mono ?_
  rintro e w3 ⟨rfl, hy⟩
  rw [← hW0] at hy
  clear hW0
  have E2 : IntKind.i64.wrap (w1 - w2) = w1 - w2 := IntWalk.i64_in _ (by omega)
  go_wp2_with fail
  refine (signOf_any _ _).mono ?_
  rintro e w4 ⟨rfl, rfl⟩
  go_wp2_with fail
  refine (or64_any _ _ _ _ (boxed 0 rfl rfl) (boxed 1 rfl rfl)).mono ?_
  rintro e w2 ⟨rfl, rfl⟩
  go_wp2
  go_ret
  exact ⟨ret_int H.out, hX.trans (hy.trans (by repeat (first | exact Ext.refl _ | assumption | apply Ext.alloc | apply Ext.drew | (refine Ext.trans ?_ (by assumption)) | (refine Ext.setNew ?_ (by simp <;> omega) _))))⟩

/-- Can a crossing belong to a track? -/
def hmB (fs : List F3) (l x y : Int) : Bool := hlB fs l && raB x y 0
theorem hmB_yes {fs : List F3} {l x y : Int} (h : hmB fs l x y = true) : (0 ≤ l ∧ l + 1 < (fs.length : Int)) ∧ 0 ≤ x ∧ x ≤ y ∧ 1 ≤ y ∧ y ≤ 100000000000000 := by
  unfold hmB at h
  simp only [Bool.and_eq_true] at h
  obtain ⟨y1, y2, x1, x2⟩ := raB_yes h.2
  exact ⟨of_decide_eq_true h.1, by omega, x2, y1, y2⟩

theorem hasMoment_any (a : Option Addr) (cap : Nat) (fs : List F3) (t l g x y : Int) (w : World) (h1 : 1 ≤ fs.length) (hm : fs.length ≤ 1000000) :
    Calls Try.prog 37 #[Tr (.slice a fs.length cap), Cr t l g x y] w fun e w' => e = .returned (.bool (hmB fs l x y)) ∧ Ext w w' := by
  obtain ⟨W0, hW0⟩ : ∃ W0, W0 = (w.alloc (.cells #[.slice a fs.length cap] 26)).alloc (.cells #[.int .i64 t, .int .i64 l, .int .i64 g, .int .i64 x, .int .i64 y] 42) := ⟨_, rfl⟩
  have hX : Ext w W0 := hW0 ▸ (((Ext.refl w).alloc _).alloc _)
  have hs0 : W0.heap.size = w.heap.size + 1 + 1 := by rw [hW0]; simp
  have e00 : ∀ w', (Ext W0) w' → w'.cell? ⟨w.heap.size, 0, none⟩ = some (.slice a fs.length cap) := fun w' h => h.cellOf (by rw [hW0]; exact ((Ext.refl _).alloc _).cellOf (boxed 0 rfl (by simp)))
  have e10 : ∀ w', (Ext W0) w' → w'.cell? ⟨w.heap.size + 1, 0, none⟩ = some (.int .i64 t) := fun w' h => h.cellOf (by rw [hW0]; exact boxed 0 rfl (by simp))
  have e11 : ∀ w', (Ext W0) w' → w'.cell? ⟨w.heap.size + 1, 1, none⟩ = some (.int .i64 l) := fun w' h => h.cellOf (by rw [hW0]; exact boxed 1 rfl (by simp))
  have e12 : ∀ w', (Ext W0) w' → w'.cell? ⟨w.heap.size + 1, 2, none⟩ = some (.int .i64 g) := fun w' h => h.cellOf (by rw [hW0]; exact boxed 2 rfl (by simp))
  have e13 : ∀ w', (Ext W0) w' → w'.cell? ⟨w.heap.size + 1, 3, none⟩ = some (.int .i64 x) := fun w' h => h.cellOf (by rw [hW0]; exact boxed 3 rfl (by simp))
  have e14 : ∀ w', (Ext W0) w' → w'.cell? ⟨w.heap.size + 1, 4, none⟩ = some (.int .i64 y) := fun w' h => h.cellOf (by rw [hW0]; exact boxed 4 rfl (by simp))
  have hr0 := Ext.refl W0
  cases hl : hlB fs l
  · have H := Lib.hid (show hmB fs l x y = false by unfold hmB; rw [hl]; rfl)
    go_enter Try.func37, Try.ntmps37
    go_wp2_with fail
    refine (hasLeg_any _ _ _ _ _ h1 hm).mono ?_
    rw [hl]
    rintro e w3 ⟨rfl, hy⟩
    rw [← hW0] at hy
    clear hW0 hl
    go_wp2
    go_ret
    exact ⟨ret_bool H.out, hX.trans hy⟩
  · have H := Lib.hid (show hmB fs l x y = raB x y 0 by unfold hmB; rw [hl]; rfl)
    go_enter Try.func37, Try.ntmps37
    go_wp2_with fail
    refine (hasLeg_any _ _ _ _ _ h1 hm).mono ?_
    rw [hl]
    rintro e w3 ⟨rfl, hy⟩
    rw [← hW0] at hy
    clear hW0 hl
    go_wp2_with fail
    refine (isWithin0_any _ _ _).mono ?_
    rintro e w4 ⟨rfl, hz⟩
    go_wp2
    go_ret
    exact ⟨ret_bool H.out, hX.trans (hy.trans hz)⟩

end Go.Proofs.Ytccggjhmnbebbaa.Trk
