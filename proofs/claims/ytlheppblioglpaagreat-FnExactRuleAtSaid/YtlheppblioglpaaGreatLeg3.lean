/- Contracts of the search for the leg at a time, second part: sort.Search at our closure, lastAtMost, legAt (impl), l03Leg (spec), LegAt of both. -/
import Derived.Test.YtlheppblioglpaaGreatLeg2
import Derived.Laws.EntriesVeiled
namespace Go.Proofs.YtlheppblioglpaaGreat.Trk
open Go.ChangeShapes Go.WideShapes Go.ChangeAt Go.RowKit
open Go.Proofs.YtlheppblioglpaaGreat.Num Go.Proofs.YtlheppblioglpaaGreat.Kit Go.Proofs.YtlheppblioglpaaGreat.Pts
set_option linter.unusedVariables false
set_option linter.unusedSimpArgs false

/-- What sort.Search keeps. -/
def RelS (w : World) (n : Nat) (p : Nat → Bool) (i j : Value) (wr : World) : Prop :=
  ∃ lo hi : Nat, i = .int .i64 lo ∧ j = .int .i64 hi ∧ lo ≤ hi ∧ hi ≤ n ∧ (∀ x, x < lo → p x = false) ∧ (∀ x, hi ≤ x → x < n → p x = true) ∧ Ext w wr

theorem below_no {n k : Nat} {p : Nat → Bool} (hm : ∀ a b, a ≤ b → b < n → p a = true → p b = true) (hk : k < n) (h : p k = false) : ∀ x, x < k + 1 → p x = false := by
  intro x hx
  cases g : p x
  · rfl
  · rw [hm x k (by omega) hk g] at h; cases h

set_option maxHeartbeats 1000000 in
theorem search_any (n : Nat) (p : Nat → Bool) (k l m : Nat) (w : World) (hn : n ≤ 1000000)
    (hf : ∀ w', Ext w w' → ∀ i, i < n → Calls Tryz.prog 114 #[.int .i64 i, Ptr k, Ptr l, Ptr m] w' fun e w'' => e = .returned (.bool (p i)) ∧ Ext w' w'')
    (hmono : ∀ a b, a ≤ b → b < n → p a = true → p b = true) :
    Calls Tryz.prog 113 #[.int .i64 n, .func (.func 114) #[] #[Ptr k, Ptr l, Ptr m]] w fun e w' =>
      ∃ h : Nat, e = .returned (.int .i64 h) ∧ h ≤ n ∧ (∀ i, i < h → p i = false) ∧ (∀ i, h ≤ i → i < n → p i = true) ∧ Ext w w' := by
  have HF := Lib.hid hf
  have HM := Lib.hid hmono
  clear hf hmono
  go_enter Tryz.func113, Tryz.ntmps113
  go_wp2
  go_loopw [5, 6] (fun i j wr => RelS w n p i j wr) (fun i j _ => (intOf j).toNat - (intOf i).toNat)
  case atStart => exact ⟨0, n, rfl, rfl, Nat.zero_le _, Nat.le_refl _, fun x hx => absurd hx (by omega), fun x h1 h2 => absurd h1 (by omega), Ext.refl _⟩
  case round =>
    obtain ⟨lo, hi, rfl, rfl, hlh, hin, hA, hB, hx⟩ := hrel
    have HA := Lib.hid hA
    have HB := Lib.hid hB
    have HX := Lib.hid hx
    clear hA hB hx
    by_cases hlt : lo < hi
    · have hc := HF.out _ HX.out ((lo + hi) / 2) (by omega)
      rw [show (((lo + hi) / 2 : Nat) : Int) = ((lo : Int) + (hi : Int)) / 2 by omega] at hc
      cases hp : p ((lo + hi) / 2) <;> rw [hp] at hc
      · have HP := Lib.hid hp
        clear hp
        go_wp2_with (go_at_call 114; refine hc.mono ?_; rintro e w1 ⟨rfl, hy⟩)
        have HY := Lib.hid (HX.out.trans hy)
        clear hy
        go_roundw
        case rel =>
          exact ⟨(lo + hi) / 2 + 1, hi, by rw [show ((lo : Int) + (hi : Int)) / 2 + 1 = (((lo + hi) / 2 + 1 : Nat) : Int) by omega], rfl, by omega, hin, below_no HM.out (by omega) HP.out, HB.out, HY.out⟩
        case measure => simp [intOf]; omega
      · have HP := Lib.hid hp
        clear hp
        go_wp2_with (go_at_call 114; refine hc.mono ?_; rintro e w1 ⟨rfl, hy⟩)
        have HY := Lib.hid (HX.out.trans hy)
        clear hy
        go_roundw
        case rel =>
          exact ⟨lo, (lo + hi) / 2, rfl, by rw [show ((lo : Int) + (hi : Int)) / 2 = (((lo + hi) / 2 : Nat) : Int) by omega], by omega, by omega, HA.out, fun x hx hxn => HM.out ((lo + hi) / 2) x hx hxn HP.out, HY.out⟩
        case measure => simp [intOf]; omega
    · obtain rfl : hi = lo := by omega
      go_wp2
      go_ret
      exact ⟨hi, rfl, hin, HA.out, HB.out, HX.out⟩

/-- The last of the first n fixes that is not later than a time, 0 if there is none. -/
def legUp (fs : List F3) (t : Int) : Nat → Nat
  | 0 => 0
  | n + 1 => if (fx fs n).t ≤ t then n else legUp fs t n
def legOf (fs : List F3) (t : Int) : Nat := legUp fs t (fs.length - 1)

theorem legUp_lt (fs : List F3) (t : Int) : ∀ n, 0 < n → legUp fs t n < n
  | 0, h => absurd h (by omega)
  | n + 1, _ => by
    unfold legUp
    split
    · omega
    · rcases Nat.eq_zero_or_pos n with h | h
      · subst h; simp [legUp]
      · have := legUp_lt fs t n h; omega
theorem legUp_pred (fs : List F3) (t : Int) (h : Nat) (h1 : 1 ≤ h) : ∀ n, h ≤ n → (∀ i, i < h → (fx fs i).t ≤ t) → (∀ i, h ≤ i → i < n → t < (fx fs i).t) → legUp fs t n = h - 1
  | 0, hn, _, _ => absurd hn (by omega)
  | n + 1, hn, ha, hb => by
    unfold legUp
    by_cases e : h = n + 1
    · rw [if_pos (ha n (by omega))]; omega
    · rw [if_neg (by have := hb n (by omega) (by omega); omega)]
      exact legUp_pred fs t h h1 n (by omega) ha (fun i g1 g2 => hb i g1 (by omega))
theorem legUp_at (fs : List F3) (t : Int) (h0 : (fx fs 0).t ≤ t) : ∀ n, (fx fs (legUp fs t n)).t ≤ t
  | 0 => by simpa [legUp] using h0
  | n + 1 => by
    unfold legUp
    split
    · assumption
    · exact legUp_at fs t h0 n
theorem legUp_next (fs : List F3) (t : Int) : ∀ n i, legUp fs t n < i → i < n → t < (fx fs i).t
  | 0, i, _, h => absurd h (by omega)
  | n + 1, i, h, hn => by
    unfold legUp at h
    split at h
    · omega
    · by_cases e : i = n
      · subst e; omega
      · exact legUp_next fs t n i h (by omega)

theorem okB_lt {fs : List F3} {k : Nat} (h : okB fs (k + 1) = true) : (fx fs k).t < (fx fs (k + 1)).t := by
  unfold okB at h
  simp at h
  exact h.2
theorem times_lt {fs : List F3} (h : trB fs = true) (a : Nat) : ∀ b, a < b → b < fs.length → (fx fs a).t < (fx fs b).t
  | 0, hab, _ => absurd hab (by omega)
  | b + 1, hab, hb => by
    have := okB_lt ((trB_yes h).2 (b + 1) hb)
    by_cases e : a = b
    · subst e; exact this
    · have := times_lt h a b (by omega) (by omega); omega

theorem lastAtMost_any (b off cap n : Nat) (fs : List F3) (t : Int) (w : World) (hn : n ≤ 1000000) (hb : ∀ i, i < n → At w b (off + i * 3) (fx fs i)) (hmono : ∀ i j, i ≤ j → j < n → (fx fs i).t ≤ (fx fs j).t) :
    Calls Tryz.prog 88 #[.slice (some ⟨b, off, none⟩) n cap, .int .i64 t, .func (.func 90) #[] #[]] w fun e w' =>
      ∃ h : Nat, e = .returned (.int .i64 ((h : Int) - 1)) ∧ h ≤ n ∧ (∀ i, i < h → (fx fs i).t ≤ t) ∧ (∀ i, h ≤ i → i < n → t < (fx fs i).t) ∧ Ext w w' := by
  have HB := Lib.hid hb
  have HM := Lib.hid hmono
  clear hb hmono
  go_enter Tryz.func88, Tryz.ntmps88
  go_wp2_with fail
  refine (search_any n (fun i => decide (t < (fx fs i).t)) _ _ _ _ hn (fun w' hx i hi => above_any b off cap n i _ _ _ (fx fs i) t w' hi (((HB.out i hi).ext (((Ext.refl _).alloc _).alloc _ |>.alloc _)).ext hx) ?_ ?_ ?_) ?_).mono ?_
  · exact hx.cellOf (boxed 0 rfl (by simp))
  · exact hx.cellOf ((((Ext.refl _).alloc _).alloc _).cellOf (boxed 0 rfl rfl))
  · exact hx.cellOf (((Ext.refl _).alloc _).cellOf (boxed 0 rfl (by simp)))
  · intro i j hij hj h
    simp at h ⊢
    have := HM.out i j hij hj
    omega
  rintro e w1 ⟨h, rfl, hh, ha, hb, hx⟩
  have HX := Lib.hid hx
  have HA := Lib.hid ha
  have HB2 := Lib.hid hb
  clear ha hb hx
  have T0 : IntKind.i64.wrap ((h : Int) - 1) = (h : Int) - 1 := IntWalk.i64_in _ (by omega)
  go_wp2
  go_ret
  exact ⟨h, rfl, hh, fun i hi => by have := HA.out i hi; simp at this; exact this, fun i h1 h2 => by have := HB2.out i h1 h2; simp at this; exact this, (((Ext.refl _).alloc _).alloc _ |>.alloc _).trans HX.out⟩

end Go.Proofs.YtlheppblioglpaaGreat.Trk
