import Derived.Test.YtplbahdomjeekaaGreatMTkr
import Derived.Test.YtplbahdomjeekaaGreatWin2
import Derived.Test.YtplbahdomjeekaaGreatNear2
import Derived.Test.YtplbahdomjeekaaGreatMPos
import Derived.Test.YtplbahdomjeekaaGreatMLen
namespace Go.Proofs.YtplbahdomjeekaaGreat.Crs
open Go.ChangeShapes Go.WideShapes Go.ChangeAt Go.RowKit Go.PlainAid
open Go.Proofs.YtplbahdomjeekaaGreat.Num Go.Proofs.YtplbahdomjeekaaGreat.Kit Go.Proofs.YtplbahdomjeekaaGreat.Pts Go.Proofs.YtplbahdomjeekaaGreat.Seg Go.Proofs.YtplbahdomjeekaaGreat.Div Go.Proofs.YtplbahdomjeekaaGreat.Root Go.Proofs.YtplbahdomjeekaaGreat.Rt Go.Proofs.YtplbahdomjeekaaGreat.Gcd
open Go.Proofs.YtplbahdomjeekaaGreat.Trk (F3 Fxs Tr trB fx lastB legOf pkX pkY)

set_option linter.unusedVariables false
set_option linter.unusedSimpArgs false
def mfC (l k : L4) (ms : List M5) (ok : Bool) (n : Int) : Int := if crB l k ms = true ∧ ok = true then (if 0 ≤ n ∧ n < ms.length then 0 else 4) else 1
def m0 : M5 := ⟨⟨#[]⟩, 0, 0, 0, 0⟩
def mfM (l k : L4) (ms : List M5) (ok : Bool) (n : Int) : M5 := if mfC l k ms ok n = 0 then mk ms n.toNat else m0
theorem mf_bad {l k : L4} {ms : List M5} {ok : Bool} {n : Int} (h : crB l k ms = false ∨ ok = false) : mfC l k ms ok n = 1 := by
  unfold mfC; rw [if_neg]; rintro ⟨a, b⟩; rcases h with h | h
  · rw [a] at h; cases h
  · rw [b] at h; cases h
theorem mf_out {l k : L4} {ms : List M5} {ok : Bool} {n : Int} (h : crB l k ms = true) (g : ok = true) (q : ¬ (0 ≤ n ∧ n < ms.length)) : mfC l k ms ok n = 4 := by
  unfold mfC; rw [if_pos ⟨h, g⟩, if_neg q]
theorem mf_yes {l k : L4} {ms : List M5} {ok : Bool} {n : Int} (h : crB l k ms = true) (g : ok = true) (q : 0 ≤ n ∧ n < ms.length) : mfC l k ms ok n = 0 := by
  unfold mfC; rw [if_pos ⟨h, g⟩, if_pos q]
theorem mf_zero {l k : L4} {ms : List M5} {ok : Bool} {n : Int} (h : mfC l k ms ok n = 0) : crB l k ms = true ∧ ok = true ∧ 0 ≤ n ∧ n < ms.length := by
  cases hq : crB l k ms
  · rw [mf_bad (.inl hq)] at h; cases h
  · cases ho : ok
    · rw [mf_bad (.inr ho)] at h; cases h
    · by_cases g : 0 ≤ n ∧ n < ms.length
      · exact ⟨rfl, rfl, g⟩
      · rw [mf_out hq ho g] at h; cases h
theorem mf_nz {l k : L4} {ms : List M5} {ok : Bool} {n : Int} (h : mfC l k ms ok n ≠ 0) : mfM l k ms ok n = m0 := if_neg h
theorem mf_mk {l k : L4} {ms : List M5} {ok : Bool} {i : Nat} (h : mfC l k ms ok i = 0) : mfM l k ms ok i = mk ms i := by
  unfold mfM; rw [if_pos h]; simp
def izB (m : M5) (x y : Int) : Bool := decide (sqD x y m.x m.y ≤ m.z * m.z)
def npX (a b c d p q : Int) : Int := if a = c ∧ b = d then a else a + pa (neN a b c d p q) (neD a b c d p q) (c - a)
def npY (a b c d p q : Int) : Int := if a = c ∧ b = d then b else b + pa (neN a b c d p q) (neD a b c d p q) (d - b)
def nlX (m : M5) (fs : List F3) (i : Nat) : Int := npX (fx fs i).x (fx fs i).y (fx fs (i + 1)).x (fx fs (i + 1)).y m.x m.y
def nlY (m : M5) (fs : List F3) (i : Nat) : Int := npY (fx fs i).x (fx fs i).y (fx fs (i + 1)).x (fx fs (i + 1)).y m.x m.y
def nlD (m : M5) (fs : List F3) (i : Nat) : Int := sqD (nlX m fs i) (nlY m fs i) m.x m.y
def nlK (m : M5) (fs : List F3) : Nat → Nat
  | 0 => 0
  | n + 1 => if nlD m fs (n + 1) < nlD m fs (nlK m fs n) then n + 1 else nlK m fs n
theorem nlK_le (m : M5) (fs : List F3) : ∀ n, nlK m fs n ≤ n
  | 0 => Nat.le_refl _
  | n + 1 => by
    unfold nlK
    split
    · exact Nat.le_refl _
    · exact Nat.le_succ_of_le (nlK_le m fs n)
theorem nlK_min (m : M5) (fs : List F3) : ∀ n i, i ≤ n → nlD m fs (nlK m fs n) ≤ nlD m fs i
  | 0, i, h => by
    obtain rfl : i = 0 := by omega
    exact Int.le_refl _
  | n + 1, i, h => by
    unfold nlK
    by_cases g : nlD m fs (n + 1) < nlD m fs (nlK m fs n)
    · rw [if_pos g]
      by_cases e : i = n + 1
      · rw [e]; exact Int.le_refl _
      · have := nlK_min m fs n i (by omega); omega
    · rw [if_neg g]
      by_cases e : i = n + 1
      · rw [e]; omega
      · exact nlK_min m fs n i (by omega)
theorem pa_co {x y n a b : Int} (k1 : 0 ≤ x) (k2 : x ≤ y) (d1 : 1 ≤ y) (hn : n = b - a) : (a ≤ b → a ≤ a + pa x y n ∧ a + pa x y n ≤ b) ∧ (b ≤ a → b ≤ a + pa x y n ∧ a + pa x y n ≤ a) := by
  subst hn
  refine ⟨fun h => ?_, fun h => ?_⟩
  · have := Trk.pa_pos k1 k2 d1 (n := b - a) (by omega); omega
  · have := Trk.pa_neg k1 k2 d1 (n := b - a) (by omega); omega
theorem pa_Co {x y a b : Int} (k1 : 0 ≤ x) (k2 : x ≤ y) (d1 : 1 ≤ y) (ha : Co a) (hb : Co b) : Co (a + pa x y (b - a)) := by
  obtain ⟨h1, h2⟩ := pa_co (a := a) (b := b) k1 k2 d1 rfl
  unfold Co at *
  rcases Int.le_total a b with h | h
  · have := h1 h; omega
  · have := h2 h; omega
theorem ne_bd {a b c d p q : Int} (ha : Co a) (hb : Co b) (hc : Co c) (hd : Co d) (hne : ¬ (a = c ∧ b = d)) :
    0 ≤ neN a b c d p q ∧ neN a b c d p q ≤ neD a b c d p q ∧ 1 ≤ neD a b c d p q ∧ neD a b c d p q ≤ 8000000000000 ∧
    neN a b c d p q * sqL a b c d = neK a b c d p q * neD a b c d p q := by
  obtain ⟨M1, M2⟩ := sqL_bd ha hb hc hd hne
  obtain ⟨h1, h2, h3, h4⟩ := Win.cl_bd (alg a b c d p q) M1
  have hK : neK a b c d p q = cl (alg a b c d p q) (sqL a b c d) := rfl
  have hg := gc_pos (a := neK a b c d p q) M1
  obtain ⟨u, hu⟩ := Win.gc_dvd_left (neK a b c d p q) (sqL a b c d) (by omega)
  obtain ⟨v, hv⟩ := Win.gc_dvd_right (neK a b c d p q) (sqL a b c d) (by omega)
  have e1 : neN a b c d p q = u := by
    unfold neN; rw [Int.ediv_eq_iff_eq_mul_right (by omega) ⟨u, hu⟩]; exact hu
  have e2 : neD a b c d p q = v := by
    unfold neD; rw [Int.ediv_eq_iff_eq_mul_right (by omega) ⟨v, hv⟩]; exact hv
  rw [e1, e2]
  rw [← hK] at h1 h2
  generalize neK a b c d p q = K at *
  generalize sqL a b c d = L at *
  generalize gc K L = G at *
  have u0 : 0 ≤ u := by
    rcases Int.lt_or_le u 0 with h | h
    · have := Int.mul_neg_of_pos_of_neg (show 0 < G by omega) h; omega
    · exact h
  have v1 : 1 ≤ v := by
    rcases Int.lt_or_le 0 v with h | h
    · omega
    · have := Int.mul_nonpos_of_nonneg_of_nonpos (show 0 ≤ G by omega) h; omega
  have uv : u ≤ v := by
    rcases Int.lt_or_le v u with h | h
    · have := Int.mul_lt_mul_of_pos_left h (show 0 < G by omega); omega
    · exact h
  have vL : v ≤ 8000000000000 := by
    have := Int.mul_le_mul_of_nonneg_right (show 1 ≤ G by omega) (show 0 ≤ v by omega)
    omega
  refine ⟨u0, uv, v1, vL, ?_⟩
  rw [hu, hv]; grind
theorem np_Co {a b c d p q : Int} (ha : Co a) (hb : Co b) (hc : Co c) (hd : Co d) : Co (npX a b c d p q) ∧ Co (npY a b c d p q) := by
  unfold npX npY
  by_cases h : a = c ∧ b = d
  · rw [if_pos h, if_pos h]; exact ⟨ha, hb⟩
  · rw [if_neg h, if_neg h]
    obtain ⟨k1, k2, d1, _, _⟩ := ne_bd (p := p) (q := q) ha hb hc hd h
    exact ⟨pa_Co k1 k2 d1 ha hc, pa_Co k1 k2 d1 hb hd⟩
end Go.Proofs.YtplbahdomjeekaaGreat.Crs
