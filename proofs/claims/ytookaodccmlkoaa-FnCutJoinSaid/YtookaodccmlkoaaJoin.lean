/- JoinTracks: the words, and the model's contract. -/
import Derived.Test.YtookaodccmlkoaaLeg4
import Derived.Test.YtookaodccmlkoaaSeg
import Derived.Test.YtookaodccmlkoaaRow
import Derived.Test.YtookaodccmlkoaaRes
import Derived.Test.YtookaodccmlkoaaOrd
import Derived.OwnWalk
import Derived.Laws.OwnMore
import Derived.IntWalk
import Derived.Deep.DeepCutAuto
namespace Go.Proofs.Ytookaodccmlkoaa.Trk
open Go.ChangeShapes Go.WideShapes Go.ChangeAt Go.RowKit
open Go.Proofs.Ytookaodccmlkoaa.Num Go.Proofs.Ytookaodccmlkoaa.Kit Go.Proofs.Ytookaodccmlkoaa.Pts Go.Proofs.Ytookaodccmlkoaa.Seg
set_option linter.unusedVariables false
set_option linter.unusedSimpArgs false

/-- The last fix of a track. -/
def lsF (fs : List F3) : F3 := fx fs (fs.length - 1)
/-- What is left of the second track. -/
def reF (fs gs : List F3) : List F3 := if eqF (fx gs 0) (lsF fs) = true then gs.tail else gs
/-- Does the second track begin too early? -/
def erB (fs gs : List F3) : Bool := !eqF (fx gs 0) (lsF fs) && decide ((fx gs 0).t ≤ (lsF fs).t)
def joC (fs gs : List F3) : Int := if trB fs = true ∧ trB gs = true then (if erB fs gs = true then 5 else if 40 < fs.length + (reF fs gs).length then 3 else 0) else 1
def joF (fs gs : List F3) : List F3 := if joC fs gs = 0 then fs ++ reF fs gs else []

theorem jo_one {fs gs : List F3} (h : ¬ (trB fs = true ∧ trB gs = true)) : joC fs gs = 1 ∧ joF fs gs = [] := by
  have e : joC fs gs = 1 := by unfold joC; rw [if_neg h]
  exact ⟨e, by unfold joF; rw [e]; rfl⟩
theorem jo_five {fs gs : List F3} (h : trB fs = true) (h2 : trB gs = true) (g : erB fs gs = true) : joC fs gs = 5 ∧ joF fs gs = [] := by
  have e : joC fs gs = 5 := by unfold joC; rw [if_pos ⟨h, h2⟩, if_pos g]
  exact ⟨e, by unfold joF; rw [e]; rfl⟩
theorem jo_three {fs gs : List F3} (h : trB fs = true) (h2 : trB gs = true) (g : erB fs gs = false) (k : 40 < fs.length + (reF fs gs).length) : joC fs gs = 3 ∧ joF fs gs = [] := by
  have e : joC fs gs = 3 := by unfold joC; rw [if_pos ⟨h, h2⟩, if_neg (by simp [g]), if_pos k]
  exact ⟨e, by unfold joF; rw [e]; rfl⟩
theorem jo_zero {fs gs : List F3} (h : trB fs = true) (h2 : trB gs = true) (g : erB fs gs = false) (k : ¬ 40 < fs.length + (reF fs gs).length) : joC fs gs = 0 ∧ joF fs gs = fs ++ reF fs gs := by
  have e : joC fs gs = 0 := by unfold joC; rw [if_pos ⟨h, h2⟩, if_neg (by simp [g]), if_neg k]
  exact ⟨e, by unfold joF; rw [if_pos e]⟩
theorem joF_len (fs gs : List F3) : (joF fs gs).length ≤ 40 := by
  unfold joF
  split
  · rename_i h
    unfold joC at h
    split at h
    · split at h
      · exact absurd h (by decide)
      · split at h
        · exact absurd h (by decide)
        · rename_i k; rw [List.length_append]; omega
    · exact absurd h (by decide)
  · simp

theorem fx_tail (fs : List F3) (i : Nat) : fx fs.tail i = fx fs (i + 1) := by
  unfold fx
  cases fs <;> simp
/-- The rest of a row behind its first fix. -/
theorem at_tail {w : World} {b off : Nat} {fs : List F3} (h : ∀ i, i < fs.length → At w b (off + i * 3) (fx fs i)) : ∀ i, i < fs.tail.length → At w b (off + 3 + i * 3) (fx fs.tail i) := by
  intro i hi
  rw [fx_tail]
  have := h (i + 1) (by simp at hi; omega)
  rwa [show off + (i + 1) * 3 = off + 3 + i * 3 by omega] at this
theorem at_cells {w : World} {b off : Nat} {fs : List F3} (h : ∀ i, i < fs.length → At w b (off + i * 3) (fx fs i)) : ∀ (j : Nat) (u : Value), (cellsF fs)[j]? = some u → w.cell? ((⟨b, off, none⟩ : Addr).add j) = some u := by
  intro j u hu
  have hj : j < fs.length * 3 := by rw [← cellsF_len]; exact (List.getElem?_eq_some_iff.1 hu).1
  obtain ⟨c0, c1, c2⟩ := h (j / 3) (by omega)
  obtain ⟨d0, d1, d2⟩ := cellsF_get fs (j / 3) (by omega)
  rw [add_plain]
  rcases (show j = j / 3 * 3 ∨ j = j / 3 * 3 + 1 ∨ j = j / 3 * 3 + 2 by omega) with e | e | e
  · rw [e] at hu ⊢; rw [d0] at hu; cases hu; exact c0
  · rw [e] at hu ⊢; rw [d1] at hu; cases hu; rw [← Nat.add_assoc]; exact c1
  · rw [e] at hu ⊢; rw [d2] at hu; cases hu; rw [← Nat.add_assoc]; exact c2
theorem Fxs.row {w : World} {a : Option Addr} {fs : List F3} (h : Fxs w a fs) (h0 : 0 < fs.length) : ∃ b off, a = some ⟨b, off, none⟩ ∧ ∀ i, i < fs.length → At w b (off + i * 3) (fx fs i) := by
  rcases h.2 with e | e
  · rw [e] at h0; simp at h0
  · exact e

/-- Where two fixes differ. -/
theorem eqF_no {f g : F3} (h : eqF f g = false) : (f.t == g.t) = false ∨ ((f.t == g.t) = true ∧ (f.x == g.x) = false) ∨ ((f.t == g.t) = true ∧ (f.x == g.x) = true ∧ (f.y == g.y) = false) := by
  unfold eqF at h
  cases h1 : f.t == g.t <;> cases h2 : f.x == g.x <;> cases h3 : f.y == g.y <;> simp_all
theorem eqF_yes {f g : F3} (h : eqF f g = true) : (f.t == g.t) = true ∧ (f.x == g.x) = true ∧ (f.y == g.y) = true := by
  unfold eqF at h
  simpa [Bool.and_eq_true] using h

end Go.Proofs.Ytookaodccmlkoaa.Trk
