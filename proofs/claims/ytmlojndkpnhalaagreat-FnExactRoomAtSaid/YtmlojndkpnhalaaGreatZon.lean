import Derived.Test.YtmlojndkpnhalaaGreatTkr
import Derived.Test.YtmlojndkpnhalaaGreatMWin
import Derived.Test.YtmlojndkpnhalaaGreatMRel
import Derived.Test.YtmlojndkpnhalaaGreatMAt
import Derived.Test.YtmlojndkpnhalaaGreatMLen2
namespace Go.Proofs.YtmlojndkpnhalaaGreat.Crs
open Go.ChangeShapes Go.WideShapes Go.ChangeAt Go.RowKit Go.PlainAid
open Go.Proofs.YtmlojndkpnhalaaGreat.Num Go.Proofs.YtmlojndkpnhalaaGreat.Kit Go.Proofs.YtmlojndkpnhalaaGreat.Pts Go.Proofs.YtmlojndkpnhalaaGreat.Seg Go.Proofs.YtmlojndkpnhalaaGreat.Div Go.Proofs.YtmlojndkpnhalaaGreat.Root Go.Proofs.YtmlojndkpnhalaaGreat.Rt Go.Proofs.YtmlojndkpnhalaaGreat.Gcd
open Go.Proofs.YtmlojndkpnhalaaGreat.Trk (F3 Fxs Tr trB fx lastB legOf pkX pkY)
open Go.Proofs.YtmlojndkpnhalaaGreat.Win (wiB)
set_option linter.unusedVariables false
set_option linter.unusedSimpArgs false
def mfC (l k : L4) (ms : List M5) (ok : Bool) (n : Int) : Int := if crB l k ms = true ∧ ok = true then (if 0 ≤ n ∧ n < ms.length then 0 else 4) else 1
def m0 : M5 := ⟨⟨#[]⟩, 0, 0, 0, 0⟩
def mfM (l k : L4) (ms : List M5) (ok : Bool) (n : Int) : M5 := if mfC l k ms ok n = 0 then mk ms n.toNat else m0
theorem mf_bad {l k : L4} {ms : List M5} {ok : Bool} {n : Int} (h : crB l k ms = false ∨ ok = false) : mfC l k ms ok n = 1 := by
  unfold mfC; rw [if_neg]; rintro ⟨a, b⟩; rcases h with h | h
  · rw [a] at h; cases h
  · rw [b] at h; cases h
theorem mf_out {l k : L4} {ms : List M5} {ok : Bool} {n : Int} (h : crB l k ms = true) (g : ok = true) (q : ¬ (0 ≤ n ∧ n < ms.length)) : mfC l k ms ok n = 4 := by
  unfold mfC; rw [if_pos ⟨h, g⟩, if_neg q]
theorem mf_yes {l k : L4} {ms : List M5} {ok : Bool} {n : Int} (h : crB l k ms = true) (g : ok = true) (q : 0 ≤ n ∧ n < ms.length) : mfC l k ms ok n = 0 := by
  unfold mfC; rw [if_pos ⟨h, g⟩, if_pos q]
theorem mf_zero {l k : L4} {ms : List M5} {ok : Bool} {n : Int} (h : mfC l k ms ok n = 0) : crB l k ms = true ∧ ok = true ∧ 0 ≤ n ∧ n < ms.length := by
  cases hq : crB l k ms
  · rw [mf_bad (.inl hq)] at h; cases h
  · cases ho : ok
    · rw [mf_bad (.inr ho)] at h; cases h
    · by_cases g : 0 ≤ n ∧ n < ms.length
      · exact ⟨rfl, rfl, g⟩
      · rw [mf_out hq ho g] at h; cases h
theorem mf_nz {l k : L4} {ms : List M5} {ok : Bool} {n : Int} (h : mfC l k ms ok n ≠ 0) : mfM l k ms ok n = m0 := if_neg h
theorem mf_mk {l k : L4} {ms : List M5} {ok : Bool} {i : Nat} (h : mfC l k ms ok i = 0) : mfM l k ms ok i = mk ms i := by
  unfold mfM; rw [if_pos h]; simp
def izB (m : M5) (x y : Int) : Bool := decide (sqD x y m.x m.y ≤ m.z * m.z)
def toB (m : M5) (a b c d : Int) : Bool := if a = c ∧ b = d then izB m a b else wiB a b c d m.x m.y m.z
def tgB (m : M5) (fs : List F3) (i : Nat) : Bool := toB m (fx fs i).x (fx fs i).y (fx fs (i + 1)).x (fx fs (i + 1)).y
def tgN (m : M5) (fs : List F3) (n : Nat) : List Nat := (List.range n).filter (tgB m fs)
def tgL (m : M5) (fs : List F3) (n : Nat) : List Int := (tgN m fs n).map fun (i : Nat) => (i : Int)
def tzL (m : M5) (fs : List F3) : List Int := tgL m fs (fs.length - 1)
theorem tgL_yes {m : M5} {fs : List F3} {n : Nat} (h : tgB m fs n = true) : tgL m fs (n + 1) = tgL m fs n ++ [(n : Int)] := by
  unfold tgL tgN; rw [List.range_succ, List.filter_append]; simp [h]
theorem tgL_no {m : M5} {fs : List F3} {n : Nat} (h : tgB m fs n = false) : tgL m fs (n + 1) = tgL m fs n := by
  unfold tgL tgN; rw [List.range_succ, List.filter_append]; simp [h]
theorem tgL_len (m : M5) (fs : List F3) (n : Nat) : (tgL m fs n).length ≤ n := by
  unfold tgL tgN; rw [List.length_map]; exact Nat.le_trans (List.length_filter_le _ _) (by simp)
theorem tgL_mem {m : M5} {fs : List F3} {n : Nat} {x : Int} : x ∈ tgL m fs n ↔ ∃ i : Nat, x = i ∧ i < n ∧ tgB m fs i = true := by
  unfold tgL tgN
  simp only [List.mem_map, List.mem_filter, List.mem_range]
  constructor
  · rintro ⟨i, ⟨h1, h2⟩, rfl⟩; exact ⟨i, rfl, h1, h2⟩
  · rintro ⟨i, rfl, h1, h2⟩; exact ⟨i, ⟨h1, h2⟩, rfl⟩
end Go.Proofs.YtmlojndkpnhalaaGreat.Crs
