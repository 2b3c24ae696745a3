/- Contracts of the search for the leg at a time, second part: sort.Search at our closure, lastAtMost, legAt (impl), l03Leg (spec), LegAt of both. -/
import Derived.Test.YtccggjhmnbebbaaLeg2
import Derived.Laws.EntriesVeiled
namespace Go.Proofs.Ytccggjhmnbebbaa.Trk
open Go.ChangeShapes Go.WideShapes Go.ChangeAt Go.RowKit
open Go.Proofs.Ytccggjhmnbebbaa.Num Go.Proofs.Ytccggjhmnbebbaa.Kit Go.Proofs.Ytccggjhmnbebbaa.Pts
set_option linter.unusedVariables false
set_option linter.unusedSimpArgs false

/-- What sort.Search keeps. -/
def RelS (w : World) (n : Nat) (p : Nat → Bool) (i j : Value) (wr : World) : Prop :=
  ∃ lo hi : Nat, i = .int .i64 lo ∧ j = .int .i64 hi ∧ lo ≤ hi ∧ hi ≤ n ∧ (∀ x, x < lo → p x = false) ∧ (∀ x, hi ≤ x → x < n → p x = true) ∧ Ext w wr

theorem below_no {n k : Nat} {p : Nat → Bool} (hm : ∀ a b, a ≤ b → b < n → p a = true → p b = true) (hk : k < n) (h : p k = false) : ∀ x, x < k + 1 → p x = false := by
  intro x hx
  cases g : p x
  · rfl
  · rw [hm x k (by omega) hk g] at h; cases h

/-- The last of the first n fixes that is not later than a time, 0 if there is none. -/
def legUp (fs : List F3) (t : Int) : Nat → Nat
  | 0 => 0
  | n + 1 => if (fx fs n).t ≤ t then n else legUp fs t n
def legOf (fs : List F3) (t : Int) : Nat := legUp fs t (fs.length - 1)

theorem legUp_lt (fs : List F3) (t : Int) : ∀ n, 0 < n → legUp fs t n < n
  | 0, h => absurd h (by omega)
  | n + 1, _ => by
    unfold legUp
    split
    · omega
    · rcases Nat.eq_zero_or_pos n with h | h
      · subst h; simp [legUp]
      · have := legUp_lt fs t n h; omega
theorem legUp_pred (fs : List F3) (t : Int) (h : Nat) (h1 : 1 ≤ h) : ∀ n, h ≤ n → (∀ i, i < h → (fx fs i).t ≤ t) → (∀ i, h ≤ i → i < n → t < (fx fs i).t) → legUp fs t n = h - 1
  | 0, hn, _, _ => absurd hn (by omega)
  | n + 1, hn, ha, hb => by
    unfold legUp
    by_cases e : h = n + 1
    · rw [if_pos (ha n (by omega))]; omega
    · rw [if_neg (by have := hb n (by omega) (by omega); omega)]
      exact legUp_pred fs t h h1 n (by omega) ha (fun i g1 g2 => hb i g1 (by omega))
theorem legUp_at (fs : List F3) (t : Int) (h0 : (fx fs 0).t ≤ t) : ∀ n, (fx fs (legUp fs t n)).t ≤ t
  | 0 => by simpa [legUp] using h0
  | n + 1 => by
    unfold legUp
    split
    · assumption
    · exact legUp_at fs t h0 n
theorem legUp_next (fs : List F3) (t : Int) : ∀ n i, legUp fs t n < i → i < n → t < (fx fs i).t
  | 0, i, _, h => absurd h (by omega)
  | n + 1, i, h, hn => by
    unfold legUp at h
    split at h
    · omega
    · by_cases e : i = n
      · subst e; omega
      · exact legUp_next fs t n i h (by omega)

theorem okB_lt {fs : List F3} {k : Nat} (h : okB fs (k + 1) = true) : (fx fs k).t < (fx fs (k + 1)).t := by
  unfold okB at h
  simp at h
  exact h.2
theorem times_lt {fs : List F3} (h : trB fs = true) (a : Nat) : ∀ b, a < b → b < fs.length → (fx fs a).t < (fx fs b).t
  | 0, hab, _ => absurd hab (by omega)
  | b + 1, hab, hb => by
    have := okB_lt ((trB_yes h).2 (b + 1) hb)
    by_cases e : a = b
    · subst e; exact this
    · have := times_lt h a b (by omega) (by omega); omega

end Go.Proofs.Ytccggjhmnbebbaa.Trk
