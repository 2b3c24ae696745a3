/- Contracts of marking a row of fixes, and of looking whether it is held. -/
import Derived.Test.YtknelhceaoblhaaRow
import Derived.IntWalk
import Derived.Deep.LoopGhost
namespace Go.Proofs.Ytknelhceaoblhaa.Trk
open Go.ChangeShapes Go.WideShapes Go.ChangeAt Go.RowKit
open Go.Proofs.Ytknelhceaoblhaa.Num Go.Proofs.Ytknelhceaoblhaa.Kit Go.Proofs.Ytknelhceaoblhaa.Pts
set_option linter.unusedVariables false
set_option linter.unusedSimpArgs false

/-- The mark number i. -/
def mkF (k : Int) (i : Nat) : F3 := ⟨k + 3 * i, k + 3 * i + 1, k + 3 * i + 2⟩
/-- The first j fixes of block g are the marks. -/
def Marked (w : World) (g : Nat) (k : Int) (j : Nat) : Prop := ∀ i, i < j → At w g (i * 3) (mkF k i)
/-- The cells of n fixes of block g may be written. -/
def Room (w : World) (g n : Nat) : Prop := ∀ j, j < n * 3 → (∃ v, w.cell? ⟨g, j, none⟩ = some v) ∧ w.frozen? ⟨g, j, none⟩ = false

theorem Own.room {w : World} {g : Nat} {fs : List F3} (h : Own w g fs) : Room w g fs.length := by
  intro j hj
  obtain ⟨⟨c0, c1, c2⟩, f0, f1, f2⟩ := h (j / 3) (by omega)
  rcases (show j = j / 3 * 3 ∨ j = j / 3 * 3 + 1 ∨ j = j / 3 * 3 + 2 by omega) with e | e | e
  · rw [e]; exact ⟨⟨_, c0⟩, f0⟩
  · rw [e]; exact ⟨⟨_, c1⟩, f1⟩
  · rw [e]; exact ⟨⟨_, c2⟩, f2⟩
theorem Room.ext {w w' : World} {g n : Nat} (h : Room w g n) (k : Ext w w') : Room w' g n := fun j hj => by
  obtain ⟨⟨v, c⟩, f⟩ := h j hj
  exact ⟨⟨v, k.cellOf c⟩, k.thawOf c f⟩

def RelM (w : World) (g n : Nat) (k : Int) (s i : Value) (wr : World) : Prop :=
  ∃ j : Nat, i = .int .i64 j ∧ s = .int .i64 (k + 3 * j) ∧ j ≤ n ∧ Room wr g n ∧ Marked wr g k j ∧ Chg g w wr

theorem RelM.step {w wr : World} {g n : Nat} {k : Int} {j : Nat} (hj : j < n) (hr : Room wr g n) (hm : Marked wr g k j) (hx : Chg g w wr) :
    RelM w g n k (.int .i64 (k + 3 * j + 1 + 1 + 1)) (.int .i64 (j + 1)) (((wr.setCell ⟨g, j * 3, none⟩ (.int .i64 (k + 3 * j))).setCell ⟨g, j * 3 + 1, none⟩ (.int .i64 (k + 3 * j + 1))).setCell ⟨g, j * 3 + 2, none⟩ (.int .i64 (k + 3 * j + 1 + 1))) := by
  obtain ⟨⟨v0, d0⟩, f0⟩ := hr (j * 3) (by omega)
  obtain ⟨⟨v1, d1⟩, f1⟩ := hr (j * 3 + 1) (by omega)
  obtain ⟨⟨v2, d2⟩, f2⟩ := hr (j * 3 + 2) (by omega)
  have other : ∀ (W : World) (p q : Nat) (u : Value), p ≠ q → (W.setCell ⟨g, p, none⟩ u).cell? ⟨g, q, none⟩ = W.cell? ⟨g, q, none⟩ := fun W p q u h => World.cell?_setCell_other _ _ _ _ (by simp <;> omega)
  refine ⟨j + 1, by go_num, by congr 1; omega, by omega, fun i hi => ?_, fun i hi => ?_, ((hx.setCell _ _).setCell _ _).setCell _ _⟩
  · obtain ⟨⟨v, hv⟩, hf⟩ := hr i hi
    refine ⟨?_, by simp only [World.frozen?_setCell]; exact hf⟩
    by_cases h2 : j * 3 + 2 = i
    · subst h2; exact ⟨_, World.cell?_setCell_same _ _ _ (by rw [other _ _ _ _ (by omega), other _ _ _ _ (by omega)]; exact d2)⟩
    · rw [other _ _ _ _ h2]
      by_cases h1 : j * 3 + 1 = i
      · subst h1; exact ⟨_, World.cell?_setCell_same _ _ _ (by rw [other _ _ _ _ (by omega)]; exact d1)⟩
      · rw [other _ _ _ _ h1]
        by_cases h0 : j * 3 = i
        · subst h0; exact ⟨_, World.cell?_setCell_same _ _ _ d0⟩
        · rw [other _ _ _ _ h0]; exact ⟨_, hv⟩
  · by_cases h : i = j
    · subst h
      refine ⟨?_, ?_, ?_⟩
      · rw [other _ _ _ _ (by omega), other _ _ _ _ (by omega)]; exact World.cell?_setCell_same _ _ _ d0
      · rw [other _ _ _ _ (by omega)]; exact World.cell?_setCell_same _ _ _ (by rw [other _ _ _ _ (by omega)]; exact d1)
      · rw [show (mkF k i).y = k + 3 * i + 1 + 1 by simp [mkF]; omega]
        exact World.cell?_setCell_same _ _ _ (by rw [other _ _ _ _ (by omega), other _ _ _ _ (by omega)]; exact d2)
    · obtain ⟨g0, g1, g2⟩ := hm i (by omega)
      refine ⟨?_, ?_, ?_⟩
      all_goals
        rw [other _ _ _ _ (by omega), other _ _ _ _ (by omega), other _ _ _ _ (by omega)]; assumption

set_option maxHeartbeats 400000 in
theorem markFixS_any (g cap n : Nat) (k : Int) (w : World) (hr : Room w g n) (hn : n ≤ 1048576) (k0 : 0 ≤ k) (k1 : k ≤ 10000000) :
    Calls Try.prog 33 #[.slice (some ⟨g, 0, none⟩) n cap, .int .i64 k] w fun e w' => e = .returned (.int .i64 (k + 3 * n)) ∧ Room w' g n ∧ Marked w' g k n ∧ Chg g w w' := by
  have HR := Lib.hid hr
  clear hr
  go_enter Try.func33, Try.ntmps33
  go_wp2
  go_loopw [1, 5] (fun s i wr => RelM w g n k s i wr) (fun s i _ => n - (intOf i).toNat)
  case atStart => exact ⟨0, rfl, by simp, Nat.zero_le _, HR.out, fun i hi => absurd hi (by omega), Chg.refl _ _⟩
  case round =>
    obtain ⟨j, rfl, rfl, hj, hr, hm, hx⟩ := hrel
    have HR2 := Lib.hid hr
    have HM := Lib.hid hm
    have HX := Lib.hid hx
    clear hr hm hx
    by_cases hj1 : j < n
    · obtain ⟨⟨v0, d0⟩, f0⟩ := HR2.out (j * 3) (by omega)
      obtain ⟨⟨v1, d1⟩, f1⟩ := HR2.out (j * 3 + 1) (by omega)
      obtain ⟨⟨v2, d2⟩, f2⟩ := HR2.out (j * 3 + 2) (by omega)
      have i0 : (0 : Int) ≤ (j : Int) := by omega
      have i1 : (j : Int) < (n : Int) := by omega
      have T0 : IntKind.i64.wrap ((j : Int) + 1) = (j : Int) + 1 := IntWalk.i64_in _ (by omega)
      have T1 : IntKind.i64.wrap (k + 3 * (j : Int) + 1) = k + 3 * (j : Int) + 1 := IntWalk.i64_in _ (by omega)
      have T2 : IntKind.i64.wrap (k + 3 * (j : Int) + 1 + 1) = k + 3 * (j : Int) + 1 + 1 := IntWalk.i64_in _ (by omega)
      have T3 : IntKind.i64.wrap (k + 3 * (j : Int) + 1 + 1 + 1) = k + 3 * (j : Int) + 1 + 1 + 1 := IntWalk.i64_in _ (by omega)
      have z0 : decide ((j : Int) < (n : Int)) = true := decide_eq_true i1
      go_wp2
      go_roundw
      case rel => exact RelM.step hj1 HR2.out HM.out HX.out
      case measure => simp [intOf]; omega
    · obtain rfl : j = n := by omega
      go_wp2
      go_ret
      exact ⟨rfl, HR2.out, HM.out, HX.out⟩

def RelW (w : World) (n : Nat) (k : Int) (s i : Value) (wr : World) : Prop := ∃ j : Nat, i = .int .i64 j ∧ s = .int .i64 (k + 3 * j) ∧ j ≤ n ∧ w = wr

theorem markTrack_any (g cap n : Nat) (k : Int) (w : World) (hr : Room w g n) (hn : n ≤ 1048576) (k0 : 0 ≤ k) (k1 : k ≤ 10000000) :
    Calls Try.prog 15 #[Tr (.slice (some ⟨g, 0, none⟩) n cap), .int .i64 k] w fun e w' => e = .returned (.int .i64 (k + 3 * n)) ∧ Room w' g n ∧ Marked w' g k n ∧ Chg g w w' := by
  have HR := Lib.hid hr
  clear hr
  go_enter Try.func15, Try.ntmps15
  go_wp2_with fail
  refine (markFixS_any _ _ _ _ _ (HR.out.ext (by repeat (first | exact Ext.refl _ | assumption | apply Ext.alloc | apply Ext.drew | (refine Ext.trans ?_ (by assumption)) | (refine Ext.setNew ?_ (by simp <;> omega) _)))) hn k0 k1).mono ?_
  rintro e w1 ⟨rfl, h1, h2, h3⟩
  have H := Lib.hid (And.intro h1 (And.intro h2 ((Chg.of_ext ((Ext.refl w).alloc _)).trans h3)))
  clear h1 h2 h3
  go_wp2
  go_ret
  exact ⟨rfl, H.out⟩

/-- The empty track. -/
theorem markTrack_nil (k : Int) (w : World) : Calls Try.prog 15 #[Tr (.slice none 0 0), .int .i64 k] w fun e w' => e = .returned (.int .i64 k) ∧ Ext w w' := by
  have h : Calls Try.prog 33 #[.slice none 0 0, .int .i64 k] (w.alloc (.cells #[.slice none 0 0] 37)) fun e w' => e = .returned (.int .i64 k) ∧ (w.alloc (.cells #[.slice none 0 0] 37)) = w' := by
    go_enter Try.func33, Try.ntmps33
    go_wp2
    go_loopw [1, 5] (fun s i wr => i = .int .i64 0 ∧ s = .int .i64 k ∧ wr = (w.alloc (.cells #[.slice none 0 0] 37))) (fun s i _ => 0)
    case atStart => exact ⟨rfl, rfl, rfl⟩
    case round =>
      obtain ⟨rfl, rfl, rfl⟩ := hrel
      go_wp2
      go_ret
      exact ⟨rfl, rfl⟩
  have H := Lib.hid h
  clear h
  go_enter Try.func15, Try.ntmps15
  go_wp2_with fail
  refine H.out.mono ?_
  rintro e w1 ⟨rfl, rfl⟩
  go_wp2
  go_ret
  exact ⟨rfl, (by repeat (first | exact Ext.refl _ | assumption | apply Ext.alloc | apply Ext.drew | (refine Ext.trans ?_ (by assumption)) | (refine Ext.setNew ?_ (by simp <;> omega) _)))⟩

end Go.Proofs.Ytknelhceaoblhaa.Trk
