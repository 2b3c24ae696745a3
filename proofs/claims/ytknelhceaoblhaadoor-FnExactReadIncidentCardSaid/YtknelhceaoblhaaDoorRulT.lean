/- The texts of rulings (chapter 10): words, and that they are read back. No program is named here. -/
import Derived.Test.YtknelhceaoblhaaDoorTxtMath
import Derived.Test.YtknelhceaoblhaaDoorNum
import Derived.Test.YtknelhceaoblhaaDoorCrw
namespace Go.Proofs.YtknelhceaoblhaaDoor.RulT
open Go.Proofs.YtknelhceaoblhaaDoor.Num Go.Proofs.YtknelhceaoblhaaDoor.TxtMath Go.Proofs.YtknelhceaoblhaaDoor.Crs
set_option linter.unusedVariables false
set_option linter.unusedSimpArgs false

abbrev wTurning : List UInt8 := [116, 117, 114, 110, 105, 110, 103]
abbrev wAstern : List UInt8 := [97, 115, 116, 101, 114, 110]
abbrev wWindward : List UInt8 := [119, 105, 110, 100, 119, 97, 114, 100]
abbrev wUnclear : List UInt8 := [117, 110, 99, 108, 101, 97, 114]
abbrev wPortR : List UInt8 := [112, 111, 114, 116]
/-- The word of a reason. -/
def rwW (r : Int) : List UInt8 := if r = 1 then wTurning else if r = 2 then wPortR else if r = 3 then wAstern else if r = 4 then wWindward else wUnclear
/-- Is a ruling valid? -/
def rvB (k r : Int) : Bool := inB k 0 2 && (inB r 1 5 && ((k == 0) == (r == 5)))
/-- The digit of a number below ten. -/
def dgK (k : Int) : UInt8 := UInt8.ofNat (48 + k.toNat)
def rtL (k r : Int) : List UInt8 := dgK k :: 32 :: rwW r
/-- The text of a ruling. -/
def rtT (k r : Int) : List UInt8 := if rvB k r = true then rtL k r else []
def prs : List (Int × Int) := [(0, 5), (1, 1), (1, 2), (1, 3), (1, 4), (2, 1), (2, 2), (2, 3), (2, 4)]
theorem rv_mem {k r : Int} (h : rvB k r = true) : (k, r) ∈ prs := by
  unfold rvB at h
  rw [Bool.and_eq_true, Bool.and_eq_true] at h
  obtain ⟨h1, h2, h3⟩ := h
  have hk := of_inB h1
  have hr := of_inB h2
  obtain rfl | rfl | rfl : k = 0 ∨ k = 1 ∨ k = 2 := by omega
  all_goals
    obtain rfl | rfl | rfl | rfl | rfl : r = 1 ∨ r = 2 ∨ r = 3 ∨ r = 4 ∨ r = 5 := by omega
    all_goals first
    | (exfalso; revert h3; decide)
    | simp [prs]
theorem rv_prs : ∀ p ∈ prs, rvB p.1 p.2 = true := by decide
/-- The ruling that has a text. -/
def rdF (l : List UInt8) : Option (Int × Int) := prs.find? fun p => rtL p.1 p.2 == l
theorem rd_same : ∀ p ∈ prs, rdF (rtL p.1 p.2) = some p := by decide
theorem rd_none {l : List UInt8} (h : ∀ p ∈ prs, rtL p.1 p.2 ≠ l) : rdF l = none := by
  unfold rdF
  rw [List.find?_eq_none]
  intro p hp
  simpa using h p hp
theorem rd_some {l : List UInt8} {k r : Int} (hv : rvB k r = true) (h : rtT k r = l) : rdF l = some (k, r) := by
  unfold rtT at h
  rw [if_pos hv] at h
  rw [← h]
  exact rd_same _ (rv_mem hv)
def rdK (l : List UInt8) : Int := match rdF l with | some p => p.1 | none => 0
def rdR (l : List UInt8) : Int := match rdF l with | some p => p.2 | none => 0
def rdB (l : List UInt8) : Bool := (rdF l).isSome
theorem rd_yes {l : List UInt8} {p : Int × Int} (h : rdF l = some p) : rdK l = p.1 ∧ rdR l = p.2 ∧ rdB l = true := by unfold rdK rdR rdB; rw [h]; exact ⟨rfl, rfl, rfl⟩
theorem rd_no {l : List UInt8} (h : rdF l = none) : rdK l = 0 ∧ rdR l = 0 ∧ rdB l = false := by unfold rdK rdR rdB; rw [h]; exact ⟨rfl, rfl, rfl⟩
/-- The number of a word among the words of the reasons. -/
def ixN (w : List UInt8) : Int := if w = [] then 0 else if w = wTurning then 1 else if w = wPortR then 2 else if w = wAstern then 3 else if w = wWindward then 4 else if w = wUnclear then 5 else -1
theorem cut_rt : ∀ p ∈ prs, cA 32 (rtL p.1 p.2) = [dgK p.1] ∧ cB 32 (rtL p.1 p.2) = rwW p.2 := by decide
theorem pI_dig : ∀ k ∈ ([0, 1, 2] : List Int), pI [dgK k] = k := by decide
theorem pI_prs : ∀ p ∈ prs, pI [dgK p.1] = p.1 := by
  intro p hp
  refine pI_dig p.1 ?_
  revert p
  decide
theorem ix_prs : ∀ p ∈ prs, ixN (rwW p.2) = p.2 := by decide
/-- What the program reads: its own pieces, or nothing. -/
theorem rd_impl (l : List UInt8) : rdF l = if rvB (pI (cA 32 l)) (ixN (cB 32 l)) = true ∧ rtT (pI (cA 32 l)) (ixN (cB 32 l)) = l then some (pI (cA 32 l), ixN (cB 32 l)) else none := by
  by_cases h : rvB (pI (cA 32 l)) (ixN (cB 32 l)) = true ∧ rtT (pI (cA 32 l)) (ixN (cB 32 l)) = l
  · rw [if_pos h]
    exact rd_some h.1 h.2
  · rw [if_neg h]
    refine rd_none fun p hp e => h ?_
    obtain ⟨c1, c2⟩ := cut_rt p hp
    rw [e] at c1 c2
    rw [c1, c2, pI_prs p hp, ix_prs p hp]
    refine ⟨rv_prs p hp, ?_⟩
    unfold rtT
    rw [if_pos (rv_prs p hp)]
    exact e

end Go.Proofs.YtknelhceaoblhaaDoor.RulT
