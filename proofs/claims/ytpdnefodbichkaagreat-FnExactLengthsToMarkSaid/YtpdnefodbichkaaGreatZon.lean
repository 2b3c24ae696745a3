import Derived.Test.YtpdnefodbichkaaGreatTkr
import Derived.Test.YtpdnefodbichkaaGreatWin2
import Derived.Test.YtpdnefodbichkaaGreatNear2
import Derived.Test.YtpdnefodbichkaaGreatMPos
import Derived.Test.YtpdnefodbichkaaGreatMLen2
namespace Go.Proofs.YtpdnefodbichkaaGreat.Crs
open Go.ChangeShapes Go.WideShapes Go.ChangeAt Go.RowKit Go.PlainAid
open Go.Proofs.YtpdnefodbichkaaGreat.Num Go.Proofs.YtpdnefodbichkaaGreat.Kit Go.Proofs.YtpdnefodbichkaaGreat.Pts Go.Proofs.YtpdnefodbichkaaGreat.Seg Go.Proofs.YtpdnefodbichkaaGreat.Div Go.Proofs.YtpdnefodbichkaaGreat.Root Go.Proofs.YtpdnefodbichkaaGreat.Rt Go.Proofs.YtpdnefodbichkaaGreat.Gcd
open Go.Proofs.YtpdnefodbichkaaGreat.Trk (F3 Fxs Tr trB fx lastB legOf pkX pkY)

set_option linter.unusedVariables false
set_option linter.unusedSimpArgs false
def mfC (l k : L4) (ms : List M5) (ok : Bool) (n : Int) : Int := if crB l k ms = true ∧ ok = true then (if 0 ≤ n ∧ n < ms.length then 0 else 4) else 1
def m0 : M5 := ⟨⟨#[]⟩, 0, 0, 0, 0⟩
def mfM (l k : L4) (ms : List M5) (ok : Bool) (n : Int) : M5 := if mfC l k ms ok n = 0 then mk ms n.toNat else m0
theorem mf_bad {l k : L4} {ms : List M5} {ok : Bool} {n : Int} (h : crB l k ms = false ∨ ok = false) : mfC l k ms ok n = 1 := by
  unfold mfC; rw [if_neg]; rintro ⟨a, b⟩; rcases h with h | h
  · rw [a] at h; cases h
  · rw [b] at h; cases h
theorem mf_out {l k : L4} {ms : List M5} {ok : Bool} {n : Int} (h : crB l k ms = true) (g : ok = true) (q : ¬ (0 ≤ n ∧ n < ms.length)) : mfC l k ms ok n = 4 := by
  unfold mfC; rw [if_pos ⟨h, g⟩, if_neg q]
theorem mf_yes {l k : L4} {ms : List M5} {ok : Bool} {n : Int} (h : crB l k ms = true) (g : ok = true) (q : 0 ≤ n ∧ n < ms.length) : mfC l k ms ok n = 0 := by
  unfold mfC; rw [if_pos ⟨h, g⟩, if_pos q]
theorem mf_zero {l k : L4} {ms : List M5} {ok : Bool} {n : Int} (h : mfC l k ms ok n = 0) : crB l k ms = true ∧ ok = true ∧ 0 ≤ n ∧ n < ms.length := by
  cases hq : crB l k ms
  · rw [mf_bad (.inl hq)] at h; cases h
  · cases ho : ok
    · rw [mf_bad (.inr ho)] at h; cases h
    · by_cases g : 0 ≤ n ∧ n < ms.length
      · exact ⟨rfl, rfl, g⟩
      · rw [mf_out hq ho g] at h; cases h
theorem mf_nz {l k : L4} {ms : List M5} {ok : Bool} {n : Int} (h : mfC l k ms ok n ≠ 0) : mfM l k ms ok n = m0 := if_neg h
theorem mf_mk {l k : L4} {ms : List M5} {ok : Bool} {i : Nat} (h : mfC l k ms ok i = 0) : mfM l k ms ok i = mk ms i := by
  unfold mfM; rw [if_pos h]; simp
def izB (m : M5) (x y : Int) : Bool := decide (sqD x y m.x m.y ≤ m.z * m.z)
end Go.Proofs.YtpdnefodbichkaaGreat.Crs
