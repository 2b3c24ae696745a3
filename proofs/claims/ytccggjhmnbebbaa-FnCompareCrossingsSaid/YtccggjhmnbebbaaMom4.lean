/- Contracts of l05Right, l05Compare (spec) and CompareCrossings (impl, spec). -/
import Derived.Test.YtccggjhmnbebbaaMom3
namespace Go.Proofs.Ytccggjhmnbebbaa.Trk
open Go.ChangeShapes Go.WideShapes Go.ChangeAt Go.RowKit
open Go.Proofs.Ytccggjhmnbebbaa.Num Go.Proofs.Ytccggjhmnbebbaa.Kit Go.Proofs.Ytccggjhmnbebbaa.Pts Go.Proofs.Ytccggjhmnbebbaa.Seg Go.Proofs.Ytccggjhmnbebbaa.Div Go.Proofs.Ytccggjhmnbebbaa.Cmp
set_option linter.unusedVariables false
set_option linter.unusedSimpArgs false

theorem right_spec (a : Option Addr) (cap : Nat) (fs : List F3) (t l g x y : Int) (w : World) (h1 : 1 ≤ fs.length) (hm : fs.length ≤ 1000000) :
    Calls Try.prog 40 #[Tr (.slice a fs.length cap), Cr t l g x y] w fun e w' => e = .returned (.bool (hmB fs l x y)) ∧ Ext w w' := by
  obtain ⟨W0, hW0⟩ : ∃ W0, W0 = (w.alloc (.cells #[.slice a fs.length cap] 26)).alloc (.cells #[.int .i64 t, .int .i64 l, .int .i64 g, .int .i64 x, .int .i64 y] 42) := ⟨_, rfl⟩
  have hX : Ext w W0 := hW0 ▸ (((Ext.refl w).alloc _).alloc _)
  have hs0 : W0.heap.size = w.heap.size + 1 + 1 := by rw [hW0]; simp
  have e00 : ∀ w', (Ext W0) w' → w'.cell? ⟨w.heap.size, 0, none⟩ = some (.slice a fs.length cap) := fun w' h => h.cellOf (by rw [hW0]; exact ((Ext.refl _).alloc _).cellOf (boxed 0 rfl (by simp)))
  have e10 : ∀ w', (Ext W0) w' → w'.cell? ⟨w.heap.size + 1, 0, none⟩ = some (.int .i64 t) := fun w' h => h.cellOf (by rw [hW0]; exact boxed 0 rfl (by simp))
  have e11 : ∀ w', (Ext W0) w' → w'.cell? ⟨w.heap.size + 1, 1, none⟩ = some (.int .i64 l) := fun w' h => h.cellOf (by rw [hW0]; exact boxed 1 rfl (by simp))
  have e12 : ∀ w', (Ext W0) w' → w'.cell? ⟨w.heap.size + 1, 2, none⟩ = some (.int .i64 g) := fun w' h => h.cellOf (by rw [hW0]; exact boxed 2 rfl (by simp))
  have e13 : ∀ w', (Ext W0) w' → w'.cell? ⟨w.heap.size + 1, 3, none⟩ = some (.int .i64 x) := fun w' h => h.cellOf (by rw [hW0]; exact boxed 3 rfl (by simp))
  have e14 : ∀ w', (Ext W0) w' → w'.cell? ⟨w.heap.size + 1, 4, none⟩ = some (.int .i64 y) := fun w' h => h.cellOf (by rw [hW0]; exact boxed 4 rfl (by simp))
  have hr0 := Ext.refl W0
  have E1 : IntKind.i64.wrap ((fs.length : Int) - 2) = (fs.length : Int) - 2 := IntWalk.i64_in _ (by omega)
  by_cases hl : 0 ≤ l ∧ l ≤ (fs.length : Int) - 2
  rotate_left
  · have H := Lib.hid (show hmB fs l x y = false by unfold hmB; rw [show hlB fs l = false from decide_eq_false (by omega)]; rfl)
    have il := inB_no hl
    clear hl
    go_enter Try.func40, Try.ntmps40
    go_wp2_with (go_at_call 45; refine (in_any _ _ _ _).mono ?_; rintro e w' ⟨rfl, rfl⟩)
    go_ret
    exact ⟨ret_bool H.out, (by repeat (first | exact Ext.refl _ | assumption | apply Ext.alloc | apply Ext.drew | (refine Ext.trans ?_ (by assumption)) | (refine Ext.setNew ?_ (by simp <;> omega) _)))⟩
  have L1 : hlB fs l = true := decide_eq_true (by omega)
  have il := inB_yes hl.1 hl.2
  by_cases ky : 1 ≤ y ∧ y ≤ 100000000000000
  rotate_left
  · have hr : raB x y 0 = false := by
      cases hh : raB x y 0
      · rfl
      · exfalso; have := raB_yes hh; omega
    have H := Lib.hid (show hmB fs l x y = false by unfold hmB; rw [hr, L1]; rfl)
    have iy := inB_no ky
    clear hl ky hr L1
    go_enter Try.func40, Try.ntmps40
    go_wp2_with (go_at_call 45; refine (in_any _ _ _ _).mono ?_; rintro e w' ⟨rfl, rfl⟩)
    go_ret
    exact ⟨ret_bool H.out, (by repeat (first | exact Ext.refl _ | assumption | apply Ext.alloc | apply Ext.drew | (refine Ext.trans ?_ (by assumption)) | (refine Ext.setNew ?_ (by simp <;> omega) _)))⟩
  have iy := inB_yes ky.1 ky.2
  have H := Lib.hid (show hmB fs l x y = inB x 0 y by
    unfold hmB raB inB; rw [L1, decide_eq_true ky.1, decide_eq_true ky.2, Int.zero_mul]
    simp)
  clear hl ky L1
  go_enter Try.func40, Try.ntmps40
  go_wp2_with (go_at_call 45; refine (in_any _ _ _ _).mono ?_; rintro e w' ⟨rfl, rfl⟩)
  go_ret
  exact ⟨ret_bool H.out, (by repeat (first | exact Ext.refl _ | assumption | apply Ext.alloc | apply Ext.drew | (refine Ext.trans ?_ (by assumption)) | (refine Ext.setNew ?_ (by simp <;> omega) _)))⟩

theorem sgnZ (n : Int) : sgn n = 0 ↔ n = 0 := by
  unfold sgn; rcases Int.lt_trichotomy n 0 with h | h | h
  · rw [if_pos h]; omega
  · subst h; decide
  · rw [if_neg (by omega : ¬ n < 0), if_pos h]; omega
theorem cmI_same {w1 r1 y1 w2 r2 y2 : Int} (h : w1 = w2) : cmI w1 r1 y1 w2 r2 y2 = cmpZ (r1 * y2) (r2 * y1) := by
  unfold cmI orZ; rw [if_pos ((sgnZ _).2 (by omega))]
theorem cmI_diff {w1 r1 y1 w2 r2 y2 : Int} (h : w1 ≠ w2) : cmI w1 r1 y1 w2 r2 y2 = sgn (w1 - w2) := by
  unfold cmI orZ; rw [if_neg (fun g => h (by have := (sgnZ _).1 g; omega))]

/-- The exact times of two crossings, compared. -/
def ecI (fs gs : List F3) (k j : Nat) (x y u v : Int) : Int := cmI (mwI fs k x y) (mrI fs k x y) y (mwI gs j u v) (mrI gs j u v) v

set_option maxHeartbeats 1000000 in
theorem compareC_spec (a a2 : Option Addr) (cap cap2 : Nat) (fs gs : List F3) (k j : Nat) (t g x y t2 g2 u v : Int) (w : World) (hf : Fxs w a fs) (hg : Fxs w a2 gs) (hk : k + 1 < fs.length) (hj : j + 1 < gs.length) (hv : trB fs = true) (hv2 : trB gs = true)
    (k1 : 0 ≤ x) (k2 : x ≤ y) (d1 : 1 ≤ y) (d2 : y ≤ 100000000000000) (l1 : 0 ≤ u) (l2 : u ≤ v) (m1 : 1 ≤ v) (m2 : v ≤ 100000000000000) :
    Calls Try.prog 41 #[Tr (.slice a fs.length cap), Cr t k g x y, Tr (.slice a2 gs.length cap2), Cr t2 j g2 u v] w fun e w' => e = .returned (.int .i64 (ecI fs gs k j x y u v)) ∧ Ext w w' := by
  obtain ⟨W0, hW0⟩ : ∃ W0, W0 = (((w.alloc (.cells #[.slice a fs.length cap] 26)).alloc (.cells #[.int .i64 t, .int .i64 k, .int .i64 g, .int .i64 x, .int .i64 y] 42)).alloc (.cells #[.slice a2 gs.length cap2] 26)).alloc (.cells #[.int .i64 t2, .int .i64 j, .int .i64 g2, .int .i64 u, .int .i64 v] 42) := ⟨_, rfl⟩
  have hX : Ext w W0 := hW0 ▸ (((((Ext.refl w).alloc _).alloc _).alloc _).alloc _)
  have hs0 : W0.heap.size = w.heap.size + 1 + 1 + 1 + 1 := by rw [hW0]; simp
  have e00 : ∀ w', (Ext W0) w' → w'.cell? ⟨w.heap.size, 0, none⟩ = some (.slice a fs.length cap) := fun w' h => h.cellOf (by rw [hW0]; exact ((((Ext.refl _).alloc _).alloc _).alloc _).cellOf (boxed 0 rfl (by simp)))
  have e10 : ∀ w', (Ext W0) w' → w'.cell? ⟨w.heap.size + 1, 0, none⟩ = some (.int .i64 t) := fun w' h => h.cellOf (by rw [hW0]; exact (((Ext.refl _).alloc _).alloc _).cellOf (boxed 0 rfl (by simp)))
  have e11 : ∀ w', (Ext W0) w' → w'.cell? ⟨w.heap.size + 1, 1, none⟩ = some (.int .i64 k) := fun w' h => h.cellOf (by rw [hW0]; exact (((Ext.refl _).alloc _).alloc _).cellOf (boxed 1 rfl (by simp)))
  have e12 : ∀ w', (Ext W0) w' → w'.cell? ⟨w.heap.size + 1, 2, none⟩ = some (.int .i64 g) := fun w' h => h.cellOf (by rw [hW0]; exact (((Ext.refl _).alloc _).alloc _).cellOf (boxed 2 rfl (by simp)))
  have e13 : ∀ w', (Ext W0) w' → w'.cell? ⟨w.heap.size + 1, 3, none⟩ = some (.int .i64 x) := fun w' h => h.cellOf (by rw [hW0]; exact (((Ext.refl _).alloc _).alloc _).cellOf (boxed 3 rfl (by simp)))
  have e14 : ∀ w', (Ext W0) w' → w'.cell? ⟨w.heap.size + 1, 4, none⟩ = some (.int .i64 y) := fun w' h => h.cellOf (by rw [hW0]; exact (((Ext.refl _).alloc _).alloc _).cellOf (boxed 4 rfl (by simp)))
  have e20 : ∀ w', (Ext W0) w' → w'.cell? ⟨w.heap.size + 1 + 1, 0, none⟩ = some (.slice a2 gs.length cap2) := fun w' h => h.cellOf (by rw [hW0]; exact ((Ext.refl _).alloc _).cellOf (boxed 0 rfl (by simp)))
  have e30 : ∀ w', (Ext W0) w' → w'.cell? ⟨w.heap.size + 1 + 1 + 1, 0, none⟩ = some (.int .i64 t2) := fun w' h => h.cellOf (by rw [hW0]; exact boxed 0 rfl (by simp))
  have e31 : ∀ w', (Ext W0) w' → w'.cell? ⟨w.heap.size + 1 + 1 + 1, 1, none⟩ = some (.int .i64 j) := fun w' h => h.cellOf (by rw [hW0]; exact boxed 1 rfl (by simp))
  have e32 : ∀ w', (Ext W0) w' → w'.cell? ⟨w.heap.size + 1 + 1 + 1, 2, none⟩ = some (.int .i64 g2) := fun w' h => h.cellOf (by rw [hW0]; exact boxed 2 rfl (by simp))
  have e33 : ∀ w', (Ext W0) w' → w'.cell? ⟨w.heap.size + 1 + 1 + 1, 3, none⟩ = some (.int .i64 u) := fun w' h => h.cellOf (by rw [hW0]; exact boxed 3 rfl (by simp))
  have e34 : ∀ w', (Ext W0) w' → w'.cell? ⟨w.heap.size + 1 + 1 + 1, 4, none⟩ = some (.int .i64 v) := fun w' h => h.cellOf (by rw [hW0]; exact boxed 4 rfl (by simp))
  have hr0 := Ext.refl W0
  have HF := Lib.hid hf
  have HG := Lib.hid hg
  have B1 := Lib.hid (mom_bd hv hk k1 k2 d1)
  have B2 := Lib.hid (mom_bd hv2 hj l1 l2 m1)
  have Q1 := Lib.hid (show mwI fs k x y = (fx fs k).t + durI fs k * x / y from rfl)
  have Q2 := Lib.hid (show mwI gs j u v = (fx gs j).t + durI gs j * u / v from rfl)
  have bw1 : 0 ≤ mwI fs k x y ∧ mwI fs k x y ≤ 1000000000 := by rw [Q1.out]; have := B1.out; omega
  have bw2 : 0 ≤ mwI gs j u v ∧ mwI gs j u v ≤ 1000000000 := by rw [Q2.out]; have := B2.out; omega
  have br1 : 0 ≤ mrI fs k x y ∧ mrI fs k x y ≤ 100000000000000 := by have := B1.out; omega
  have br2 : 0 ≤ mrI gs j u v ∧ mrI gs j u v ≤ 100000000000000 := by have := B2.out; omega
  have HE := Lib.hid (show ecI fs gs k j x y u v = cmI (mwI fs k x y) (mrI fs k x y) y (mwI gs j u v) (mrI gs j u v) v from rfl)
  clear hf hg B1 B2 Q1 Q2
  go_enter Try.func41, Try.ntmps41
  go_wp2_with fail
  refine (exact_spec _ _ _ _ _ _ _ _ _ (HF.out.ext (by rw [← hW0]; exact hX)) hk hv k1 k2 d1 d2).mono ?_
  rintro e w1 ⟨rfl, h⟩
  rw [← hW0] at h
  clear hW0
  generalize mwI fs k x y = P at *
  generalize mrI fs k x y = R at *
  generalize hV : w1.alloc (.cells #[.int .i64 R, .int .i64 y] 40) = V
  have hxV : Ext w1 V := hV ▸ (Ext.refl w1).alloc _
  have hX1 : Ext W0 V := h.trans hxV
  have r0 : V.cell? ⟨w1.heap.size, 0, none⟩ = some (.int .i64 R) := hV ▸ boxed 0 rfl rfl
  have r1 : V.cell? ⟨w1.heap.size, 1, none⟩ = some (.int .i64 y) := hV ▸ boxed 1 rfl rfl
  clear h hxV hr0
  go_wp2_with fail
  refine (exact_spec _ _ _ _ _ _ _ _ _ (HG.out.ext (hX.trans hX1)) hj hv2 l1 l2 m1 m2).mono ?_
  rintro e w2 ⟨rfl, h⟩
  clear hV
  generalize mwI gs j u v = P2 at *
  generalize mrI gs j u v = R2 at *
  replace r0 := h.cellOf r0
  replace r1 := h.cellOf r1
  have hX2 := hX1.trans h
  clear h hX1 e00 e10 e11 e12 e13 e14 e20 e30 e31 e32 e33 e34
  have q0 : ∀ A, (w2.alloc A).cell? ⟨w1.heap.size, 0, none⟩ = some (.int .i64 R) := fun A => ((Ext.refl w2).alloc A).cellOf r0
  have q1 : ∀ A, (w2.alloc A).cell? ⟨w1.heap.size, 1, none⟩ = some (.int .i64 y) := fun A => ((Ext.refl w2).alloc A).cellOf r1
  by_cases hP : P = P2
  · have H := Lib.hid (HE.out.trans (cmI_same hP))
    have hPb : (P != P2) = false := by simp [hP]
    have E2 : IntKind.i64.wrap (P - P2) = P - P2 := IntWalk.i64_in _ (by omega)
    clear hP
    go_wp2_with fail
    refine (compareS_any _ _ _ _ _ (by omega) (by omega) (by omega) (by omega) (by omega) (by omega) (by omega) (by omega)).mono ?_
    rintro e w3 ⟨rfl, hy⟩
    go_wp2
    go_ret
    exact ⟨ret_int H.out, hX.trans (hX2.trans ((by repeat (first | exact Ext.refl _ | assumption | apply Ext.alloc | apply Ext.drew | (refine Ext.trans ?_ (by assumption)) | (refine Ext.setNew ?_ (by simp <;> omega) _)))))⟩
  · have H := Lib.hid (HE.out.trans (cmI_diff hP))
    have hPb : (P != P2) = true := by simp [hP]
    have E2 : IntKind.i64.wrap (P - P2) = P - P2 := IntWalk.i64_in _ (by omega)
    clear hP
    go_wp2_with (go_at_call 68; refine (sign_any _ _).mono ?_; rintro e w5 ⟨rfl, rfl⟩)
    go_ret
    exact ⟨ret_int H.out, hX.trans (hX2.trans ((by repeat (first | exact Ext.refl _ | assumption | apply Ext.alloc | apply Ext.drew | (refine Ext.trans ?_ (by assumption)) | (refine Ext.setNew ?_ (by simp <;> omega) _)))))⟩

/-- What CompareCrossings answers: the comparison and the code. -/
def ccC (fs gs : List F3) (l l2 x y u v : Int) : Int := if (trB fs && trB gs) = true then (if (hmB fs l x y && hmB gs l2 u v) = true then 0 else 2) else 1
def ccQ (fs gs : List F3) (l l2 x y u v : Int) : Int := if ccC fs gs l l2 x y u v = 0 then ecI fs gs l.toNat l2.toNat x y u v else 0
theorem ccC_one {fs gs : List F3} {l l2 x y u v : Int} (h : (trB fs && trB gs) = false) : ccC fs gs l l2 x y u v = 1 := if_neg (by simp only [h]; decide)
theorem ccC_two {fs gs : List F3} {l l2 x y u v : Int} (h1 : trB fs = true) (h2 : trB gs = true) (h : (hmB fs l x y && hmB gs l2 u v) = false) : ccC fs gs l l2 x y u v = 2 := (if_pos (by rw [h1, h2]; rfl)).trans (if_neg (by simp only [h]; decide))
theorem ccC_none {fs gs : List F3} {l l2 x y u v : Int} (h1 : trB fs = true) (h2 : trB gs = true) (h : (hmB fs l x y && hmB gs l2 u v) = true) : ccC fs gs l l2 x y u v = 0 := (if_pos (by rw [h1, h2]; rfl)).trans (if_pos h)
theorem ccQ_no {fs gs : List F3} {l l2 x y u v : Int} (h : ccC fs gs l l2 x y u v = 1 ∨ ccC fs gs l l2 x y u v = 2) : ccQ fs gs l l2 x y u v = 0 := if_neg (by omega)
theorem ccQ_yes {fs gs : List F3} {l l2 x y u v : Int} (h : ccC fs gs l l2 x y u v = 0) : ccQ fs gs l l2 x y u v = ecI fs gs l.toNat l2.toNat x y u v := if_pos h

set_option maxHeartbeats 1000000 in
theorem compareCrossings_spec (a a2 : Option Addr) (cap cap2 : Nat) (fs gs : List F3) (t l g x y t2 l2 g2 u v : Int) (w : World) (hf : Fxs w a fs) (hg : Fxs w a2 gs) :
    Calls Try.prog 19 #[Tr (.slice a fs.length cap), Cr t l g x y, Tr (.slice a2 gs.length cap2), Cr t2 l2 g2 u v] w fun e w' => e = .returned (.tuple #[.int .i64 (ccQ fs gs l l2 x y u v), .int .i64 (ccC fs gs l l2 x y u v)]) ∧ Ext w w' := by
  obtain ⟨W0, hW0⟩ : ∃ W0, W0 = (((w.alloc (.cells #[.slice a fs.length cap] 26)).alloc (.cells #[.int .i64 t, .int .i64 l, .int .i64 g, .int .i64 x, .int .i64 y] 42)).alloc (.cells #[.slice a2 gs.length cap2] 26)).alloc (.cells #[.int .i64 t2, .int .i64 l2, .int .i64 g2, .int .i64 u, .int .i64 v] 42) := ⟨_, rfl⟩
  have hX : Ext w W0 := hW0 ▸ (((((Ext.refl w).alloc _).alloc _).alloc _).alloc _)
  have hs0 : W0.heap.size = w.heap.size + 1 + 1 + 1 + 1 := by rw [hW0]; simp
  have e00 : ∀ w', (Ext W0) w' → w'.cell? ⟨w.heap.size, 0, none⟩ = some (.slice a fs.length cap) := fun w' h => h.cellOf (by rw [hW0]; exact ((((Ext.refl _).alloc _).alloc _).alloc _).cellOf (boxed 0 rfl (by simp)))
  have e10 : ∀ w', (Ext W0) w' → w'.cell? ⟨w.heap.size + 1, 0, none⟩ = some (.int .i64 t) := fun w' h => h.cellOf (by rw [hW0]; exact (((Ext.refl _).alloc _).alloc _).cellOf (boxed 0 rfl (by simp)))
  have e11 : ∀ w', (Ext W0) w' → w'.cell? ⟨w.heap.size + 1, 1, none⟩ = some (.int .i64 l) := fun w' h => h.cellOf (by rw [hW0]; exact (((Ext.refl _).alloc _).alloc _).cellOf (boxed 1 rfl (by simp)))
  have e12 : ∀ w', (Ext W0) w' → w'.cell? ⟨w.heap.size + 1, 2, none⟩ = some (.int .i64 g) := fun w' h => h.cellOf (by rw [hW0]; exact (((Ext.refl _).alloc _).alloc _).cellOf (boxed 2 rfl (by simp)))
  have e13 : ∀ w', (Ext W0) w' → w'.cell? ⟨w.heap.size + 1, 3, none⟩ = some (.int .i64 x) := fun w' h => h.cellOf (by rw [hW0]; exact (((Ext.refl _).alloc _).alloc _).cellOf (boxed 3 rfl (by simp)))
  have e14 : ∀ w', (Ext W0) w' → w'.cell? ⟨w.heap.size + 1, 4, none⟩ = some (.int .i64 y) := fun w' h => h.cellOf (by rw [hW0]; exact (((Ext.refl _).alloc _).alloc _).cellOf (boxed 4 rfl (by simp)))
  have e20 : ∀ w', (Ext W0) w' → w'.cell? ⟨w.heap.size + 1 + 1, 0, none⟩ = some (.slice a2 gs.length cap2) := fun w' h => h.cellOf (by rw [hW0]; exact ((Ext.refl _).alloc _).cellOf (boxed 0 rfl (by simp)))
  have e30 : ∀ w', (Ext W0) w' → w'.cell? ⟨w.heap.size + 1 + 1 + 1, 0, none⟩ = some (.int .i64 t2) := fun w' h => h.cellOf (by rw [hW0]; exact boxed 0 rfl (by simp))
  have e31 : ∀ w', (Ext W0) w' → w'.cell? ⟨w.heap.size + 1 + 1 + 1, 1, none⟩ = some (.int .i64 l2) := fun w' h => h.cellOf (by rw [hW0]; exact boxed 1 rfl (by simp))
  have e32 : ∀ w', (Ext W0) w' → w'.cell? ⟨w.heap.size + 1 + 1 + 1, 2, none⟩ = some (.int .i64 g2) := fun w' h => h.cellOf (by rw [hW0]; exact boxed 2 rfl (by simp))
  have e33 : ∀ w', (Ext W0) w' → w'.cell? ⟨w.heap.size + 1 + 1 + 1, 3, none⟩ = some (.int .i64 u) := fun w' h => h.cellOf (by rw [hW0]; exact boxed 3 rfl (by simp))
  have e34 : ∀ w', (Ext W0) w' → w'.cell? ⟨w.heap.size + 1 + 1 + 1, 4, none⟩ = some (.int .i64 v) := fun w' h => h.cellOf (by rw [hW0]; exact boxed 4 rfl (by simp))
  have hr0 := Ext.refl W0
  have HF := Lib.hid hf
  have HG := Lib.hid hg
  clear hf hg
  go_enter Try.func19, Try.ntmps19
  go_wp2_with fail
  refine (isTrack_spec _ _ _ _ (HF.out.ext (by rw [← hW0]; exact hX))).mono ?_
  rintro e w1 ⟨rfl, h1⟩
  rw [← hW0] at h1
  clear hW0 hr0
  cases hv : trB fs
  · have HC := Lib.hid (ccC_one (fs := fs) (gs := gs) (l := l) (l2 := l2) (x := x) (y := y) (u := u) (v := v) (by rw [hv]; rfl))
    have HQ := Lib.hid (ccQ_no (Or.inl HC.out))
    go_wp2
    go_ret2
    exact ⟨ret_int2 HQ.out HC.out, hX.trans h1⟩
  go_wp2_with fail
  refine (isTrack_spec _ _ _ _ (HG.out.ext (hX.trans h1))).mono ?_
  rintro e w2 ⟨rfl, h2⟩
  replace h2 := h1.trans h2
  clear h1
  cases hv2 : trB gs
  · have HC := Lib.hid (ccC_one (fs := fs) (gs := gs) (l := l) (l2 := l2) (x := x) (y := y) (u := u) (v := v) (by rw [hv2]; simp))
    have HQ := Lib.hid (ccQ_no (Or.inl HC.out))
    go_wp2
    go_ret2
    exact ⟨ret_int2 HQ.out HC.out, hX.trans h2⟩
  obtain ⟨⟨n2, n40⟩, _⟩ := trB_yes hv
  obtain ⟨⟨m2, m40⟩, _⟩ := trB_yes hv2
  go_wp2_with fail
  refine (right_spec _ _ _ _ _ _ _ _ _ (by omega) (by omega)).mono ?_
  rintro e w3 ⟨rfl, h3⟩
  replace h3 := h2.trans h3
  clear h2
  cases hm : hmB fs l x y
  · have HC := Lib.hid (ccC_two (fs := fs) (gs := gs) (l := l) (l2 := l2) (x := x) (y := y) (u := u) (v := v) hv hv2 (by rw [hm]; rfl))
    have HQ := Lib.hid (ccQ_no (Or.inr HC.out))
    go_wp2
    go_ret2
    exact ⟨ret_int2 HQ.out HC.out, hX.trans h3⟩
  go_wp2_with fail
  refine (right_spec _ _ _ _ _ _ _ _ _ (by omega) (by omega)).mono ?_
  rintro e w4 ⟨rfl, h4⟩
  replace h4 := h3.trans h4
  clear h3
  cases hm2 : hmB gs l2 u v
  · have HC := Lib.hid (ccC_two (fs := fs) (gs := gs) (l := l) (l2 := l2) (x := x) (y := y) (u := u) (v := v) hv hv2 (by rw [hm2]; simp))
    have HQ := Lib.hid (ccQ_no (Or.inr HC.out))
    go_wp2
    go_ret2
    exact ⟨ret_int2 HQ.out HC.out, hX.trans h4⟩
  have HC := Lib.hid (ccC_none (fs := fs) (gs := gs) (l := l) (l2 := l2) (x := x) (y := y) (u := u) (v := v) hv hv2 (by rw [hm, hm2]; rfl))
  have HQ := Lib.hid (ccQ_yes HC.out)
  obtain ⟨⟨p0, p1⟩, q0, q1, q2, q3⟩ := hmB_yes hm
  obtain ⟨⟨r0, r1⟩, s0, s1, s2, s3⟩ := hmB_yes hm2
  obtain ⟨k, rfl⟩ := Int.eq_ofNat_of_zero_le p0
  obtain ⟨j, rfl⟩ := Int.eq_ofNat_of_zero_le r0
  rw [show ((k : Int)).toNat = k by omega, show ((j : Int)).toNat = j by omega] at HQ
  clear hm hm2
  go_wp2_with fail
  refine (compareC_spec _ _ _ _ _ _ _ _ _ _ _ _ _ _ _ _ _ (HF.out.ext (hX.trans h4)) (HG.out.ext (hX.trans h4)) (by omega) (by omega) hv hv2 q0 q1 q2 q3 s0 s1 s2 s3).mono ?_
  rintro e w5 ⟨rfl, h5⟩
  go_wp2
  go_ret2
  exact ⟨ret_int2 HQ.out HC.out, hX.trans (h4.trans h5)⟩

set_option maxHeartbeats 1000000 in
theorem compareCrossings_impl (a a2 : Option Addr) (cap cap2 : Nat) (fs gs : List F3) (t l g x y t2 l2 g2 u v : Int) (w : World) (hf : Fxs w a fs) (hg : Fxs w a2 gs) :
    Calls Try.prog 18 #[Tr (.slice a fs.length cap), Cr t l g x y, Tr (.slice a2 gs.length cap2), Cr t2 l2 g2 u v] w fun e w' => e = .returned (.tuple #[.int .i64 (ccQ fs gs l l2 x y u v), .int .i64 (ccC fs gs l l2 x y u v)]) ∧ Ext w w' := by
  obtain ⟨W0, hW0⟩ : ∃ W0, W0 = (((w.alloc (.cells #[.slice a fs.length cap] 26)).alloc (.cells #[.int .i64 t, .int .i64 l, .int .i64 g, .int .i64 x, .int .i64 y] 42)).alloc (.cells #[.slice a2 gs.length cap2] 26)).alloc (.cells #[.int .i64 t2, .int .i64 l2, .int .i64 g2, .int .i64 u, .int .i64 v] 42) := ⟨_, rfl⟩
  have hX : Ext w W0 := hW0 ▸ (((((Ext.refl w).alloc _).alloc _).alloc _).alloc _)
  have hs0 : W0.heap.size = w.heap.size + 1 + 1 + 1 + 1 := by rw [hW0]; simp
  have e00 : ∀ w', (Ext W0) w' → w'.cell? ⟨w.heap.size, 0, none⟩ = some (.slice a fs.length cap) := fun w' h => h.cellOf (by rw [hW0]; exact ((((Ext.refl _).alloc _).alloc _).alloc _).cellOf (boxed 0 rfl (by simp)))
  have e10 : ∀ w', (Ext W0) w' → w'.cell? ⟨w.heap.size + 1, 0, none⟩ = some (.int .i64 t) := fun w' h => h.cellOf (by rw [hW0]; exact (((Ext.refl _).alloc _).alloc _).cellOf (boxed 0 rfl (by simp)))
  have e11 : ∀ w', (Ext W0) w' → w'.cell? ⟨w.heap.size + 1, 1, none⟩ = some (.int .i64 l) := fun w' h => h.cellOf (by rw [hW0]; exact (((Ext.refl _).alloc _).alloc _).cellOf (boxed 1 rfl (by simp)))
  have e12 : ∀ w', (Ext W0) w' → w'.cell? ⟨w.heap.size + 1, 2, none⟩ = some (.int .i64 g) := fun w' h => h.cellOf (by rw [hW0]; exact (((Ext.refl _).alloc _).alloc _).cellOf (boxed 2 rfl (by simp)))
  have e13 : ∀ w', (Ext W0) w' → w'.cell? ⟨w.heap.size + 1, 3, none⟩ = some (.int .i64 x) := fun w' h => h.cellOf (by rw [hW0]; exact (((Ext.refl _).alloc _).alloc _).cellOf (boxed 3 rfl (by simp)))
  have e14 : ∀ w', (Ext W0) w' → w'.cell? ⟨w.heap.size + 1, 4, none⟩ = some (.int .i64 y) := fun w' h => h.cellOf (by rw [hW0]; exact (((Ext.refl _).alloc _).alloc _).cellOf (boxed 4 rfl (by simp)))
  have e20 : ∀ w', (Ext W0) w' → w'.cell? ⟨w.heap.size + 1 + 1, 0, none⟩ = some (.slice a2 gs.length cap2) := fun w' h => h.cellOf (by rw [hW0]; exact ((Ext.refl _).alloc _).cellOf (boxed 0 rfl (by simp)))
  have e30 : ∀ w', (Ext W0) w' → w'.cell? ⟨w.heap.size + 1 + 1 + 1, 0, none⟩ = some (.int .i64 t2) := fun w' h => h.cellOf (by rw [hW0]; exact boxed 0 rfl (by simp))
  have e31 : ∀ w', (Ext W0) w' → w'.cell? ⟨w.heap.size + 1 + 1 + 1, 1, none⟩ = some (.int .i64 l2) := fun w' h => h.cellOf (by rw [hW0]; exact boxed 1 rfl (by simp))
  have e32 : ∀ w', (Ext W0) w' → w'.cell? ⟨w.heap.size + 1 + 1 + 1, 2, none⟩ = some (.int .i64 g2) := fun w' h => h.cellOf (by rw [hW0]; exact boxed 2 rfl (by simp))
  have e33 : ∀ w', (Ext W0) w' → w'.cell? ⟨w.heap.size + 1 + 1 + 1, 3, none⟩ = some (.int .i64 u) := fun w' h => h.cellOf (by rw [hW0]; exact boxed 3 rfl (by simp))
  have e34 : ∀ w', (Ext W0) w' → w'.cell? ⟨w.heap.size + 1 + 1 + 1, 4, none⟩ = some (.int .i64 v) := fun w' h => h.cellOf (by rw [hW0]; exact boxed 4 rfl (by simp))
  have hr0 := Ext.refl W0
  have HF := Lib.hid hf
  have HG := Lib.hid hg
  clear hf hg
  go_enter Try.func18, Try.ntmps18
  go_wp2_with fail
  refine (trackValid_any _ _ _ _ (HF.out.ext (by rw [← hW0]; exact hX))).mono ?_
  rintro e w1 ⟨rfl, h1⟩
  rw [← hW0] at h1
  clear hW0 hr0
  cases hv : trB fs
  · have HC := Lib.hid (ccC_one (fs := fs) (gs := gs) (l := l) (l2 := l2) (x := x) (y := y) (u := u) (v := v) (by rw [hv]; rfl))
    have HQ := Lib.hid (ccQ_no (Or.inl HC.out))
    go_wp2
    go_ret2
    exact ⟨ret_int2 HQ.out HC.out, hX.trans h1⟩
  go_wp2_with fail
  refine (trackValid_any _ _ _ _ (HG.out.ext (hX.trans h1))).mono ?_
  rintro e w2 ⟨rfl, h2⟩
  replace h2 := h1.trans h2
  clear h1
  cases hv2 : trB gs
  · have HC := Lib.hid (ccC_one (fs := fs) (gs := gs) (l := l) (l2 := l2) (x := x) (y := y) (u := u) (v := v) (by rw [hv2]; simp))
    have HQ := Lib.hid (ccQ_no (Or.inl HC.out))
    go_wp2
    go_ret2
    exact ⟨ret_int2 HQ.out HC.out, hX.trans h2⟩
  obtain ⟨⟨n2, n40⟩, _⟩ := trB_yes hv
  obtain ⟨⟨m2, m40⟩, _⟩ := trB_yes hv2
  go_wp2_with fail
  refine (hasMoment_any _ _ _ _ _ _ _ _ _ (by omega) (by omega)).mono ?_
  rintro e w3 ⟨rfl, h3⟩
  replace h3 := h2.trans h3
  clear h2
  cases hm : hmB fs l x y
  · have HC := Lib.hid (ccC_two (fs := fs) (gs := gs) (l := l) (l2 := l2) (x := x) (y := y) (u := u) (v := v) hv hv2 (by rw [hm]; rfl))
    have HQ := Lib.hid (ccQ_no (Or.inr HC.out))
    go_wp2
    go_ret2
    exact ⟨ret_int2 HQ.out HC.out, hX.trans h3⟩
  go_wp2_with fail
  refine (hasMoment_any _ _ _ _ _ _ _ _ _ (by omega) (by omega)).mono ?_
  rintro e w4 ⟨rfl, h4⟩
  replace h4 := h3.trans h4
  clear h3
  cases hm2 : hmB gs l2 u v
  · have HC := Lib.hid (ccC_two (fs := fs) (gs := gs) (l := l) (l2 := l2) (x := x) (y := y) (u := u) (v := v) hv hv2 (by rw [hm2]; simp))
    have HQ := Lib.hid (ccQ_no (Or.inr HC.out))
    go_wp2
    go_ret2
    exact ⟨ret_int2 HQ.out HC.out, hX.trans h4⟩
  have HC := Lib.hid (ccC_none (fs := fs) (gs := gs) (l := l) (l2 := l2) (x := x) (y := y) (u := u) (v := v) hv hv2 (by rw [hm, hm2]; rfl))
  have HQ := Lib.hid (ccQ_yes HC.out)
  obtain ⟨⟨p0, p1⟩, q0, q1, q2, q3⟩ := hmB_yes hm
  obtain ⟨⟨r0, r1⟩, s0, s1, s2, s3⟩ := hmB_yes hm2
  obtain ⟨k, rfl⟩ := Int.eq_ofNat_of_zero_le p0
  obtain ⟨j, rfl⟩ := Int.eq_ofNat_of_zero_le r0
  rw [show ((k : Int)).toNat = k by omega, show ((j : Int)).toNat = j by omega] at HQ
  clear hm hm2
  have B1 := Lib.hid (mom_bd hv (show k + 1 < fs.length by omega) q0 q1 q2)
  have B2 := Lib.hid (mom_bd hv2 (show j + 1 < gs.length by omega) s0 s1 s2)
  have Q1 := Lib.hid (show mwI fs k x y = (fx fs k).t + durI fs k * x / y from rfl)
  have Q2 := Lib.hid (show mwI gs j u v = (fx gs j).t + durI gs j * u / v from rfl)
  have bw1 : 0 ≤ mwI fs k x y ∧ mwI fs k x y ≤ 1000000000 := by rw [Q1.out]; have := B1.out; omega
  have bw2 : 0 ≤ mwI gs j u v ∧ mwI gs j u v ≤ 1000000000 := by rw [Q2.out]; have := B2.out; omega
  have br1 : 0 ≤ mrI fs k x y ∧ mrI fs k x y ≤ y := by have := B1.out; omega
  have br2 : 0 ≤ mrI gs j u v ∧ mrI gs j u v ≤ v := by have := B2.out; omega
  have HE := Lib.hid (show ecI fs gs k j x y u v = cmI (mwI fs k x y) (mrI fs k x y) y (mwI gs j u v) (mrI gs j u v) v from rfl)
  have PM := Lib.hid (fun w' => moment_any (mwI fs k x y) (mrI fs k x y) y (mwI gs j u v) (mrI gs j u v) v w' bw1.1 bw1.2 bw2.1 bw2.2 br1.1 br1.2 q2 q3 br2.1 br2.2 s2 s3)
  have P1 := Lib.hid (fun w' (h : Fxs w' a fs) => momentAt_any a cap fs k x y w' h (by omega) hv q0 q1 q2 q3)
  have P2 := Lib.hid (fun w' (h : Fxs w' a2 gs) => momentAt_any a2 cap2 gs j u v w' h (by omega) hv2 s0 s1 s2 s3)
  go_wp2_with fail
  refine wp_region_held_drew (S := (fun w' => Ext W0 w')) (by kernel_rfl) (by (try dsimp only); first | go_keep | exact (Ext.refl _).drew | exact Res.new2.drew | exact Res.new4.drew | exact ResB.drew (by assumption) | exact ResC.drew (by assumption) | assumption | exact Ext.drew (by assumption) | exact Res.drew (by assumption)) (fun hHeld => ?_)
  (refine Ord.takeH 0 28 (v := ?_) rfl rfl (by kernel_rfl) (by kernel_rfl) (by kernel_rfl) (fun _ _ _ h => h) (by rfl) ?_ (by assumption) ?_; rotate_left; (intro w hSw; (try dsimp only at hSw); go_simp; (first | done | with_reducible rfl)); (try simp only [Act.put, List.setIfInBounds_toArray, List.set_cons_zero, List.set_cons_succ]))
  (refine Ord.takeH 1 29 (v := ?_) rfl rfl (by kernel_rfl) (by kernel_rfl) (by kernel_rfl) (fun _ _ _ h => h) (by rfl) ?_ (by assumption) ?_; rotate_left; (intro w hSw; (try dsimp only at hSw); go_simp; (first | done | with_reducible rfl)); (try simp only [Act.put, List.setIfInBounds_toArray, List.set_cons_zero, List.set_cons_succ]))
  (refine Ord.takeH 2 30 (v := ?_) rfl rfl (by kernel_rfl) (by kernel_rfl) (by kernel_rfl) (fun _ _ _ h => h) (by rfl) ?_ (by assumption) ?_; rotate_left; (intro w hSw; (try dsimp only at hSw); go_simp; (first | done | with_reducible rfl)); (try simp only [Act.put, List.setIfInBounds_toArray, List.set_cons_zero, List.set_cons_succ]))
  (refine Ord.takeH 3 31 (v := ?_) rfl rfl (by kernel_rfl) (by kernel_rfl) (by kernel_rfl) (fun _ _ _ h => h) (by rfl) ?_ (by assumption) ?_; rotate_left; (intro w hSw; (try dsimp only at hSw); go_simp; (first | done | with_reducible rfl)); (try simp only [Act.put, List.setIfInBounds_toArray, List.set_cons_zero, List.set_cons_succ]))
  (refine Ord.takeH 4 32 (v := ?_) rfl rfl (by kernel_rfl) (by kernel_rfl) (by kernel_rfl) (fun _ _ _ h => h) (by rfl) ?_ (by assumption) ?_; rotate_left; (intro w hSw; (try dsimp only at hSw); go_simp; (first | done | with_reducible rfl)); (try simp only [Act.put, List.setIfInBounds_toArray, List.set_cons_zero, List.set_cons_succ]))
  (refine Ord.takeH 6 34 (v := ?_) rfl rfl (by kernel_rfl) (by kernel_rfl) (by kernel_rfl) (fun _ _ _ h => h) (by rfl) ?_ (by assumption) ?_; rotate_left; (intro w hSw; (try dsimp only at hSw); go_simp; (first | done | with_reducible rfl)); (try simp only [Act.put, List.setIfInBounds_toArray, List.set_cons_zero, List.set_cons_succ]))
  (refine Ord.takeH 7 35 (v := ?_) rfl rfl (by kernel_rfl) (by kernel_rfl) (by kernel_rfl) (fun _ _ _ h => h) (by rfl) ?_ (by assumption) ?_; rotate_left; (intro w hSw; (try dsimp only at hSw); go_simp; (first | done | with_reducible rfl)); (try simp only [Act.put, List.setIfInBounds_toArray, List.set_cons_zero, List.set_cons_succ]))
  (refine Ord.takeH 8 36 (v := ?_) rfl rfl (by kernel_rfl) (by kernel_rfl) (by kernel_rfl) (fun _ _ _ h => h) (by rfl) ?_ (by assumption) ?_; rotate_left; (intro w hSw; (try dsimp only at hSw); go_simp; (first | done | with_reducible rfl)); (try simp only [Act.put, List.setIfInBounds_toArray, List.set_cons_zero, List.set_cons_succ]))
  (refine Ord.takeH 9 37 (v := ?_) rfl rfl (by kernel_rfl) (by kernel_rfl) (by kernel_rfl) (fun _ _ _ h => h) (by rfl) ?_ (by assumption) ?_; rotate_left; (intro w hSw; (try dsimp only at hSw); go_simp; (first | done | with_reducible rfl)); (try simp only [Act.put, List.setIfInBounds_toArray, List.set_cons_zero, List.set_cons_succ]))
  (refine Ord.takeH 10 38 (v := ?_) rfl rfl (by kernel_rfl) (by kernel_rfl) (by kernel_rfl) (fun _ _ _ h => h) (by rfl) ?_ (by assumption) ?_; rotate_left; (intro w hSw; (try dsimp only at hSw); go_simp; (first | done | with_reducible rfl)); (try simp only [Act.put, List.setIfInBounds_toArray, List.set_cons_zero, List.set_cons_succ]))
  (refine wpAnyH_ready (rs := [5]) (by kernel_rfl) (by simp) ?_; refine AllReadyH.cons rfl (fun K hK => ?_) AllReadyH.nil; go_simp; (first | (go_at_call 38; with_reducible refine (P1.out _ (HF.out.ext (hX.trans (by assumption)))).mono ?_; rintro e w5 ⟨rfl, hy⟩) | (go_at_call 38; with_reducible refine (P2.out _ (HG.out.ext (hX.trans (by assumption)))).mono ?_; rintro e w5 ⟨rfl, hy⟩) | (go_at_call 39; with_reducible refine (PM.out _).mono ?_; rintro e w5 ⟨rfl, hy⟩)); go_wp2_with fail; (refine hK.out _ _ (by first | assumption | exact Ext.trans (by assumption) hy | exact Res.ext (by assumption) hy | exact ResB.ext (by assumption) hy | exact ResC.ext (by assumption) hy | (go_split_ands; (repeat' apply And.intro) <;> exact Ext.cellOf hy (by assumption))) (fun hHeld => ?_)); clear hK K; (try simp only [Act.put, List.setIfInBounds_toArray, List.set_cons_zero, List.set_cons_succ]))
  (refine wpAnyH_ready (rs := [11]) (by kernel_rfl) (by simp) ?_; refine AllReadyH.cons rfl (fun K hK => ?_) AllReadyH.nil; go_simp; (first | (go_at_call 38; with_reducible refine (P1.out _ (HF.out.ext (hX.trans (by assumption)))).mono ?_; rintro e w5 ⟨rfl, hy⟩) | (go_at_call 38; with_reducible refine (P2.out _ (HG.out.ext (hX.trans (by assumption)))).mono ?_; rintro e w5 ⟨rfl, hy⟩) | (go_at_call 39; with_reducible refine (PM.out _).mono ?_; rintro e w5 ⟨rfl, hy⟩)); go_wp2_with fail; (refine hK.out _ _ (by first | assumption | exact Ext.trans (by assumption) hy | exact Res.ext (by assumption) hy | exact ResB.ext (by assumption) hy | exact ResC.ext (by assumption) hy | (go_split_ands; (repeat' apply And.intro) <;> exact Ext.cellOf hy (by assumption))) (fun hHeld => ?_)); clear hK K; (try simp only [Act.put, List.setIfInBounds_toArray, List.set_cons_zero, List.set_cons_succ]))
  (refine wpAnyH_ready (rs := [12]) (by kernel_rfl) (by simp) ?_; refine AllReadyH.cons rfl (fun K hK => ?_) AllReadyH.nil; go_simp; (first | (go_at_call 38; with_reducible refine (P1.out _ (HF.out.ext (hX.trans (by assumption)))).mono ?_; rintro e w5 ⟨rfl, hy⟩) | (go_at_call 38; with_reducible refine (P2.out _ (HG.out.ext (hX.trans (by assumption)))).mono ?_; rintro e w5 ⟨rfl, hy⟩) | (go_at_call 39; with_reducible refine (PM.out _).mono ?_; rintro e w5 ⟨rfl, hy⟩)); go_wp2_with fail; (refine hK.out _ _ (by first | assumption | exact Ext.trans (by assumption) hy | exact Res.ext (by assumption) hy | exact ResB.ext (by assumption) hy | exact ResC.ext (by assumption) hy | (go_split_ands; (repeat' apply And.intro) <;> exact Ext.cellOf hy (by assumption))) (fun hHeld => ?_)); clear hK K; (try simp only [Act.put, List.setIfInBounds_toArray, List.set_cons_zero, List.set_cons_succ]))
  (refine Ord.takeH 13 8 (v := ?_) rfl rfl (by kernel_rfl) (by kernel_rfl) (by kernel_rfl) (fun _ _ _ h => h) (by rfl) ?_ (by assumption) ?_; rotate_left; (intro w hSw; (try dsimp only at hSw); go_simp; (first | done | with_reducible rfl)); (try simp only [Act.put, List.setIfInBounds_toArray, List.set_cons_zero, List.set_cons_succ]))
  (refine Ord.takeH 14 9 (v := ?_) rfl rfl (by kernel_rfl) (by kernel_rfl) (by kernel_rfl) (fun _ _ _ h => h) (by rfl) ?_ (by assumption) ?_; rotate_left; (intro w hSw; (try dsimp only at hSw); go_simp; (first | done | with_reducible rfl)); (try simp only [Act.put, List.setIfInBounds_toArray, List.set_cons_zero, List.set_cons_succ]))
  refine wpAnyH_done (by kernel_rfl) ?_ _
  go_wp2
  go_ret2
  exact ⟨ret_int2 (HQ.out.trans HE.out) HC.out, hX.trans hHeld⟩

end Go.Proofs.Ytccggjhmnbebbaa.Trk
