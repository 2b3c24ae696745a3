import Derived.Test.YtmlojndkpnhalaaGreatHul6
namespace Go.Proofs.YtmlojndkpnhalaaGreat.Rul
open Go.ChangeShapes Go.WideShapes Go.ChangeAt Go.RowKit
open Go.Proofs.YtmlojndkpnhalaaGreat.Num Go.Proofs.YtmlojndkpnhalaaGreat.Kit Go.Proofs.YtmlojndkpnhalaaGreat.Pts Go.Proofs.YtmlojndkpnhalaaGreat.Seg Go.Proofs.YtmlojndkpnhalaaGreat.Wnd Go.Proofs.YtmlojndkpnhalaaGreat.Hul
set_option linter.unusedVariables false
set_option linter.unusedSimpArgs false
abbrev Bo (a b c d n : Int) (s : Bool) : Value := .agg #[.int .i64 a, .int .i64 b, .int .i64 c, .int .i64 d, .int .i64 n, .bool s]
def ooN (s t : Bool) : Int := if s = true then (if t = true then 0 else 1) else (if t = true then 2 else 0)
def rlK (s t : Bool) (i j o k : Int) : Int :=
  if (s || t) = true then ooN s t
  else if ((i == 0) || (j == 0)) = true then 0
  else if (i != j) = true then (if i = 1 then 1 else 2)
  else if o = 1 then 2 else if o = 2 then 1 else if o = 3 then 0 else k
def rlR (s t : Bool) (i j o k : Int) : Int :=
  if rlK s t i j o k = 0 then 5
  else if (s || t) = true then 1
  else if (i != j) = true then 2
  else if o = 1 then 3 else if o = 2 then 3 else 4
def ruK (x y a b c d n : Int) (s : Bool) (p q u v m : Int) (t : Bool) : Int := rlK s t (tkN (c * y - d * x)) (tkN (u * y - v * x)) (ovN (caB a b c d n p q) (caB p q u v m a b)) (wwN (a * x + b * y) (p * x + q * y))
def ruR (x y a b c d n : Int) (s : Bool) (p q u v m : Int) (t : Bool) : Int := rlR s t (tkN (c * y - d * x)) (tkN (u * y - v * x)) (ovN (caB a b c d n p q) (caB p q u v m a b)) (wwN (a * x + b * y) (p * x + q * y))
theorem ovN_cases (x y : Bool) : ovN x y = 0 ∨ ovN x y = 1 ∨ ovN x y = 2 ∨ ovN x y = 3 := by cases x <;> cases y <;> decide
theorem rlR_zero {s t : Bool} {i j o k : Int} (h : rlK s t i j o k = 0) : rlR s t i j o k = 5 := if_pos h
theorem rl_turn {s t : Bool} {i j o k : Int} (h : (s || t) = true) : rlK s t i j o k = ooN s t ∧ rlR s t i j o k = if ooN s t = 0 then 5 else 1 := by
  have e : rlK s t i j o k = ooN s t := if_pos h
  refine ⟨e, ?_⟩
  unfold rlR
  rw [e]
  split
  · rfl
  · first | rfl | rw [if_pos h]
theorem rl_none {s t : Bool} {i j o k : Int} (h : (s || t) = false) (g : ((i == 0) || (j == 0)) = true) : rlK s t i j o k = 0 ∧ rlR s t i j o k = 5 := by
  have e : rlK s t i j o k = 0 := by unfold rlK; rw [h, if_neg (by decide), if_pos g]
  exact ⟨e, rlR_zero e⟩
theorem rl_opp {s t : Bool} {i j o k : Int} (h : (s || t) = false) (g : ((i == 0) || (j == 0)) = false) (f : (i != j) = true) : rlK s t i j o k = (if i = 1 then 1 else 2) ∧ rlR s t i j o k = 2 := by
  have e : rlK s t i j o k = if i = 1 then 1 else 2 := by unfold rlK; rw [h, g, if_neg (by decide), if_neg (by decide), if_pos f]
  refine ⟨e, ?_⟩
  have ne : rlK s t i j o k ≠ 0 := by rw [e]; split <;> decide
  unfold rlR
  rw [if_neg ne, h, if_neg (by decide), if_pos f]
theorem rl_same {s t : Bool} {i j o k : Int} (h : (s || t) = false) (g : ((i == 0) || (j == 0)) = false) (f : (i != j) = false) : rlK s t i j o k = (if o = 1 then 2 else if o = 2 then 1 else if o = 3 then 0 else k) ∧ rlR s t i j o k = (if rlK s t i j o k = 0 then 5 else if o = 1 then 3 else if o = 2 then 3 else 4) := by
  refine ⟨by unfold rlK; rw [h, g, f, if_neg (by decide), if_neg (by decide), if_neg (by decide)], ?_⟩
  unfold rlR
  rw [h, f, if_neg (show ¬ false = true by decide), if_neg (show ¬ false = true by decide)]
theorem rl_astern {s t : Bool} {i j o k : Int} (h : (s || t) = false) (g : ((i == 0) || (j == 0)) = false) (f : (i != j) = false) (e : o = 1) : rlK s t i j o k = 2 ∧ rlR s t i j o k = 3 := by
  obtain ⟨a, b⟩ := rl_same (k := k) (o := o) h g f
  rw [if_pos e] at a
  rw [a, if_neg (by decide), if_pos e] at b
  exact ⟨a, b⟩
theorem rl_ahead {s t : Bool} {i j o k : Int} (h : (s || t) = false) (g : ((i == 0) || (j == 0)) = false) (f : (i != j) = false) (e : o = 2) : rlK s t i j o k = 1 ∧ rlR s t i j o k = 3 := by
  obtain ⟨a, b⟩ := rl_same (k := k) (o := o) h g f
  rw [if_neg (by omega), if_pos e] at a
  rw [a, if_neg (by decide), if_neg (by omega), if_pos e] at b
  exact ⟨a, b⟩
theorem rl_apart {s t : Bool} {i j o k : Int} (h : (s || t) = false) (g : ((i == 0) || (j == 0)) = false) (f : (i != j) = false) (e : o = 3) : rlK s t i j o k = 0 ∧ rlR s t i j o k = 5 := by
  obtain ⟨a, b⟩ := rl_same (k := k) (o := o) h g f
  rw [if_neg (by omega), if_neg (by omega), if_pos e] at a
  exact ⟨a, rlR_zero a⟩
theorem rl_wind {s t : Bool} {i j o k : Int} (h : (s || t) = false) (g : ((i == 0) || (j == 0)) = false) (f : (i != j) = false) (e : o = 0) : rlK s t i j o k = k ∧ rlR s t i j o k = if k = 0 then 5 else 4 := by
  obtain ⟨a, b⟩ := rl_same (k := k) (o := o) h g f
  rw [if_neg (by omega), if_neg (by omega), if_neg (by omega)] at a
  rw [a, if_neg (show ¬ o = 1 by omega), if_neg (show ¬ o = 2 by omega)] at b
  exact ⟨a, b⟩
end Go.Proofs.YtmlojndkpnhalaaGreat.Rul
