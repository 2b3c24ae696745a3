/- The texts of rooms (chapter 11): words, and that they are read back. No program is named here. -/
import Derived.Test.YtcangdcakgcpaaaDoorTxtMath
import Derived.Test.YtcangdcakgcpaaaDoorNum
import Derived.Test.YtcangdcakgcpaaaDoorCrw
import Derived.Test.YtcangdcakgcpaaaDoorRmB
namespace Go.Proofs.YtcangdcakgcpaaaDoor.RmT
open Go.Proofs.YtcangdcakgcpaaaDoor.Num Go.Proofs.YtcangdcakgcpaaaDoor.TxtMath Go.Proofs.YtcangdcakgcpaaaDoor.Crs
set_option linter.unusedVariables false
set_option linter.unusedSimpArgs false

abbrev vNone : List UInt8 := [110, 111, 110, 101]
abbrev vOpposite : List UInt8 := [111, 112, 112, 111, 115, 105, 116, 101]
abbrev vInside : List UInt8 := [105, 110, 115, 105, 100, 101]
abbrev vAhead : List UInt8 := [97, 104, 101, 97, 100]
abbrev vUnclear : List UInt8 := [117, 110, 99, 108, 101, 97, 114]
/-- The word of a reason. -/
def mwW (r : Int) : List UInt8 := if r = 0 then vNone else if r = 1 then vOpposite else if r = 2 then vInside else if r = 3 then vAhead else vUnclear
/-- The digit of a number below ten. -/
def dgM (k : Int) : UInt8 := UInt8.ofNat (48 + k.toNat)
def mtL (k r : Int) : List UInt8 := dgM k :: 32 :: mwW r
/-- The text of a room. -/
def mtT (k r : Int) : List UInt8 := if rmB k r = true then mtL k r else []
def prM : List (Int × Int) := [(0, 0), (0, 1), (0, 4), (1, 2), (1, 3), (2, 2), (2, 3)]
theorem rm_mem {k r : Int} (h : rmB k r = true) : (k, r) ∈ prM := by
  rcases rm_cases h with ⟨rfl | rfl, rfl | rfl⟩ | ⟨rfl | rfl | rfl, rfl⟩ <;> decide
theorem rm_prM : ∀ p ∈ prM, rmB p.1 p.2 = true := by decide
/-- The room that has a text. -/
def mdF (l : List UInt8) : Option (Int × Int) := prM.find? fun p => mtL p.1 p.2 == l
theorem md_same : ∀ p ∈ prM, mdF (mtL p.1 p.2) = some p := by decide
theorem md_none {l : List UInt8} (h : ∀ p ∈ prM, mtL p.1 p.2 ≠ l) : mdF l = none := by
  unfold mdF
  rw [List.find?_eq_none]
  intro p hp
  simpa using h p hp
theorem md_some {l : List UInt8} {k r : Int} (hv : rmB k r = true) (h : mtT k r = l) : mdF l = some (k, r) := by
  unfold mtT at h
  rw [if_pos hv] at h
  rw [← h]
  exact md_same _ (rm_mem hv)
def mdK (l : List UInt8) : Int := match mdF l with | some p => p.1 | none => 0
def mdR (l : List UInt8) : Int := match mdF l with | some p => p.2 | none => 0
def mdB (l : List UInt8) : Bool := (mdF l).isSome
theorem md_yes {l : List UInt8} {p : Int × Int} (h : mdF l = some p) : mdK l = p.1 ∧ mdR l = p.2 ∧ mdB l = true := by unfold mdK mdR mdB; rw [h]; exact ⟨rfl, rfl, rfl⟩
theorem md_no {l : List UInt8} (h : mdF l = none) : mdK l = 0 ∧ mdR l = 0 ∧ mdB l = false := by unfold mdK mdR mdB; rw [h]; exact ⟨rfl, rfl, rfl⟩
/-- The number of a word among the words of the reasons. -/
def imN (w : List UInt8) : Int := if w = vNone then 0 else if w = vOpposite then 1 else if w = vInside then 2 else if w = vAhead then 3 else if w = vUnclear then 4 else -1
theorem cut_mt : ∀ p ∈ prM, cA 32 (mtL p.1 p.2) = [dgM p.1] ∧ cB 32 (mtL p.1 p.2) = mwW p.2 := by decide
theorem pI_digM : ∀ k ∈ ([0, 1, 2] : List Int), pI [dgM k] = k := by decide
theorem pI_prM : ∀ p ∈ prM, pI [dgM p.1] = p.1 := by
  intro p hp
  refine pI_digM p.1 ?_
  revert p
  decide
theorem im_prM : ∀ p ∈ prM, imN (mwW p.2) = p.2 := by decide
/-- What the program reads: its own pieces, or nothing. -/
theorem md_impl (l : List UInt8) : mdF l = if rmB (pI (cA 32 l)) (imN (cB 32 l)) = true ∧ mtT (pI (cA 32 l)) (imN (cB 32 l)) = l then some (pI (cA 32 l), imN (cB 32 l)) else none := by
  by_cases h : rmB (pI (cA 32 l)) (imN (cB 32 l)) = true ∧ mtT (pI (cA 32 l)) (imN (cB 32 l)) = l
  · rw [if_pos h]
    exact md_some h.1 h.2
  · rw [if_neg h]
    refine md_none fun p hp e => h ?_
    obtain ⟨c1, c2⟩ := cut_mt p hp
    rw [e] at c1 c2
    rw [c1, c2, pI_prM p hp, im_prM p hp]
    refine ⟨rm_prM p hp, ?_⟩
    unfold mtT
    rw [if_pos (rm_prM p hp)]
    exact e

end Go.Proofs.YtcangdcakgcpaaaDoor.RmT
