/- The tack of a heading and its point of sailing (impl, spec); TackOf, SailOf of both. -/
import Derived.Test.YtdcnfeimfpafiaaWnd
import Derived.Test.YtdcnfeimfpafiaaLth
import Derived.Test.YtdcnfeimfpafiaaOrd
import Derived.Deep.DeepCutAuto
import Derived.Laws.EntriesVeiled
namespace Go.Proofs.Ytdcnfeimfpafiaa.Wnd
open Go.ChangeShapes Go.WideShapes Go.ChangeAt Go.RowKit
open Go.Proofs.Ytdcnfeimfpafiaa.Num Go.Proofs.Ytdcnfeimfpafiaa.Kit Go.Proofs.Ytdcnfeimfpafiaa.Pts Go.Proofs.Ytdcnfeimfpafiaa.Seg Go.Proofs.Ytdcnfeimfpafiaa.Gcd
set_option linter.unusedVariables false
set_option linter.unusedSimpArgs false

abbrev PtrW (k : Nat) : Value := .pointer (some ⟨k, 0, none⟩)
/-- The box of a wind that a closure holds. -/
def WB (w : World) (k : Nat) (x y : Int) : Prop := w.cell? ⟨k, 0, none⟩ = some (.int .i64 x) ∧ w.cell? ⟨k, 1, none⟩ = some (.int .i64 y)
theorem WB.ext {w w' : World} {k : Nat} {x y : Int} (h : WB w k x y) (e : Ext w w') : WB w' k x y := ⟨e.cellOf h.1, e.cellOf h.2⟩
theorem WB.chg {w w' : World} {k B : Nat} {x y : Int} (h : WB w k x y) (e : Chg B w w') (hB : k ≠ B) : WB w' k x y := ⟨e.cellOf hB h.1, e.cellOf hB h.2⟩

theorem on1 {w : World} {p : Addr} {v : Value} (h : w.cell? p = some v) : ∀ A, (w.alloc A).cell? p = some v := fun A => ((Ext.refl w).alloc A).cellOf h

/-- The point of sailing, out of the cross and the scalar product. -/
def slN (c d : Int) : Int := if d < 0 ∧ ab c ≤ -d then 1 else if 0 < d ∧ ab c ≤ d then 3 else 2
theorem cd_not {x y u v : Int} (hw : ¬ (x = 0 ∧ y = 0)) (hh : ¬ (u = 0 ∧ v = 0)) (hc : u * y - v * x = 0) (hd : u * x + v * y = 0) : False := by
  have a : u * (x * x + y * y) = 0 := by
    have : u * (x * x + y * y) = (u * x + v * y) * x + (u * y - v * x) * y := by grind
    rw [this, hc, hd]; simp
  have b : v * (x * x + y * y) = 0 := by
    have : v * (x * x + y * y) = (u * x + v * y) * y - (u * y - v * x) * x := by grind
    rw [this, hc, hd]; simp
  have p : 1 ≤ x * x + y * y := by
    by_cases h : x = 0
    · have := Lth.sq_pos (show y ≠ 0 from fun e => hw ⟨h, e⟩); have := Lth.sq_nn x; omega
    · have := Lth.sq_pos h; have := Lth.sq_nn y; omega
  rcases Int.mul_eq_zero.1 a with a | a
  · rcases Int.mul_eq_zero.1 b with b | b
    · exact hh ⟨a, b⟩
    · omega
  · omega
theorem sl_reach {c d : Int} (h : ab d < ab c) : slN c d = 2 := by
  unfold ab at h
  unfold slN ab
  split at h <;> split at h <;> (rw [if_neg (by split <;> omega), if_neg (by split <;> omega)])
theorem sl_up {c d : Int} (h : ¬ ab d < ab c) (hd : d < 0) : slN c d = 1 := by
  unfold ab at h
  unfold slN ab
  rw [if_pos ⟨hd, by split <;> split at h <;> first | omega | (split at h <;> omega)⟩]
theorem sl_down {c d : Int} (h : ¬ ab d < ab c) (hd : ¬ d < 0) (hn : ¬ (c = 0 ∧ d = 0)) : slN c d = 3 := by
  unfold ab at h
  unfold slN ab
  rw [if_neg (by omega), if_pos ⟨by split at h <;> split at h <;> omega, by split <;> split at h <;> first | omega | (split at h <;> omega)⟩]

/-! ### the reference model -/
/-! ### TackOf, SailOf -/
def toQ (x y u v : Int) : Int := if wdB x y = true ∧ hdB u v = true then tkN (u * y - v * x) else 0
def soQ (x y u v : Int) : Int := if wdB x y = true ∧ hdB u v = true then slN (u * y - v * x) (u * x + v * y) else 0
def toC (x y u v : Int) : Int := if wdB x y = true ∧ hdB u v = true then 0 else 1
end Go.Proofs.Ytdcnfeimfpafiaa.Wnd
