import Derived.Test.YtknelhceaoblhaaGreatMPts
import Derived.Test.YtknelhceaoblhaaGreatShelf
import Derived.Deep.LoopGhost
namespace Go.Proofs.YtknelhceaoblhaaGreat.Cmp
open Go.ChangeShapes Go.WideShapes Go.ChangeAt Go.RowKit
open Go.Proofs.YtknelhceaoblhaaGreat.Num Go.Proofs.YtknelhceaoblhaaGreat.Kit Go.Proofs.YtknelhceaoblhaaGreat.Pts
set_option linter.unusedVariables false
set_option linter.unusedSimpArgs false
def cmpZ (x y : Int) : Int := if x < y then -1 else if y < x then 1 else 0
theorem cmpZ_lt {x y : Int} (h : x < y) : cmpZ x y = -1 := if_pos h
theorem cmpZ_gt {x y : Int} (h : y < x) : cmpZ x y = 1 := by unfold cmpZ; rw [if_neg (by omega), if_pos h]
theorem cmpZ_eq {x y : Int} (h : x = y) : cmpZ x y = 0 := by unfold cmpZ; rw [if_neg (by omega), if_neg (by omega)]
theorem cmpZ_words (P Q : Int) : (if cmpZ (P / 18446744073709551616) (Q / 18446744073709551616) = 0 then cmpZ (P % 18446744073709551616) (Q % 18446744073709551616) else cmpZ (P / 18446744073709551616) (Q / 18446744073709551616)) = cmpZ P Q := by
  rcases Int.lt_trichotomy (P / 18446744073709551616) (Q / 18446744073709551616) with h | h | h
  · rw [cmpZ_lt h, if_neg (by decide), cmpZ_lt (by omega)]
  · rw [cmpZ_eq h, if_pos rfl]
    rcases Int.lt_trichotomy (P % 18446744073709551616) (Q % 18446744073709551616) with g | g | g
    · rw [cmpZ_lt g, cmpZ_lt (by omega)]
    · rw [cmpZ_eq g, cmpZ_eq (by omega)]
    · rw [cmpZ_gt g, cmpZ_gt (by omega)]
  · rw [cmpZ_gt h, if_neg (by decide), cmpZ_gt (by omega)]
theorem compare_any (x y : Int) (w : World) : Calls Tryz.prog 208 #[.int .u64 x, .int .u64 y] w fun e w' => e = .returned (.int .i64 (cmpZ x y)) ∧ w = w' := by
  by_cases h : x < y
  · have H := Lib.hid (cmpZ_lt h)
    go_enter Tryz.func208, Tryz.ntmps208
    go_wp2
    go_ret
    exact ⟨ret_int H.out, rfl⟩
  · by_cases g : y < x
    · have H := Lib.hid (cmpZ_gt g)
      go_enter Tryz.func208, Tryz.ntmps208
      go_wp2
      go_ret
      exact ⟨ret_int H.out, rfl⟩
    · have H := Lib.hid (cmpZ_eq (x := x) (y := y) (by omega))
      go_enter Tryz.func208, Tryz.ntmps208
      go_wp2
      go_ret
      exact ⟨ret_int H.out, rfl⟩
def orZ (x y : Int) : Int := if x = 0 then y else x
def RelO (x y : Int) (s : Value) : Prop := s = .int .i64 0 ∨ (s = .int .i64 1 ∧ x = 0) ∨ (s = .int .i64 2 ∧ x = 0 ∧ y = 0)
theorem or_any (B : Nat) (x y : Int) (w : World) (h0 : w.cell? ⟨B, 0, none⟩ = some (.int .i64 x)) (h1 : w.cell? ⟨B, 1, none⟩ = some (.int .i64 y)) :
    Calls Tryz.prog 85 #[.slice (some ⟨B, 0, none⟩) 2 2] w fun e w' => e = .returned (.int .i64 (orZ x y)) ∧ w = w' := by
  go_enter Tryz.func85, Tryz.ntmps85
  go_wp2
  go_loop [8] (fun s => RelO x y s) (fun s => 2 - (intOf s).toNat)
  case atStart => exact .inl rfl
  case round =>
    rcases hrel with rfl | ⟨rfl, hx⟩ | ⟨rfl, hx, hy⟩
    · by_cases hx : x = 0
      · have hx1 : (x == 0) = true := beq_iff_eq.2 hx
        have HX := Lib.hid hx
        clear hx
        go_wp2
        go_round
        case rel => exact .inr (.inl ⟨rfl, HX.out⟩)
        case measure => simp [intOf]
      · have hx1 : (x == 0) = false := beq_eq_false_iff_ne.2 hx
        have H := Lib.hid (show orZ x y = x from if_neg hx)
        clear hx
        go_wp2
        go_ret
        exact ⟨ret_int H.out, rfl⟩
    · have HX := Lib.hid hx
      clear hx
      by_cases hy : y = 0
      · have hy1 : (y == 0) = true := beq_iff_eq.2 hy
        have HY := Lib.hid hy
        clear hy
        go_wp2
        go_round
        case rel => exact .inr (.inr ⟨rfl, HX.out, HY.out⟩)
        case measure => simp [intOf]
      · have hy1 : (y == 0) = false := beq_eq_false_iff_ne.2 hy
        have H := Lib.hid (show orZ x y = y from if_pos HX.out)
        clear hy
        go_wp2
        go_ret
        exact ⟨ret_int H.out, rfl⟩
    · have H := Lib.hid (show orZ x y = 0 by unfold orZ; rw [if_pos hx, hy])
      clear hx hy
      go_wp2
      go_ret
      exact ⟨ret_int H.out, rfl⟩
theorem compareProducts_any (a b c d : Nat) (w : World) (ha : a ≤ 1000000000000000000) (hb : b ≤ 1000000000000000000) (hc : c ≤ 1000000000000000000) (hd : d ≤ 1000000000000000000) :
    Calls Tryz.prog 189 #[.int .i64 a, .int .i64 b, .int .i64 c, .int .i64 d] w fun e w' => e = .returned (.int .i64 (cmpZ ((a : Int) * b) ((c : Int) * d))) ∧ Ext w w' := by
  have p1 : ((a * b : Nat) : Int) = (a : Int) * b := Int.natCast_mul a b
  have p2 : ((c * d : Nat) : Int) = (c : Int) * d := Int.natCast_mul c d
  have q1 : ((a * b / 18446744073709551616 : Nat) : Int) = ((a : Int) * b) / 18446744073709551616 := by rw [← p1]; omega
  have q2 : ((c * d / 18446744073709551616 : Nat) : Int) = ((c : Int) * d) / 18446744073709551616 := by rw [← p2]; omega
  have q3 : ((a * b % 18446744073709551616 : Nat) : Int) = ((a : Int) * b) % 18446744073709551616 := by rw [← p1]; omega
  have q4 : ((c * d % 18446744073709551616 : Nat) : Int) = ((c : Int) * d) % 18446744073709551616 := by rw [← p2]; omega
  have H := Lib.hid (show cmpZ ((a : Int) * b) ((c : Int) * d) = orZ (cmpZ ((a * b / 18446744073709551616 : Nat) : Int) ((c * d / 18446744073709551616 : Nat) : Int)) (cmpZ ((a * b % 18446744073709551616 : Nat) : Int) ((c * d % 18446744073709551616 : Nat) : Int)) by
    rw [q1, q2, q3, q4]; exact (cmpZ_words ((a : Int) * b) ((c : Int) * d)).symm)
  clear p1 p2 q1 q2 q3 q4
  go_enter Tryz.func189, Tryz.ntmps189
  go_wp2_with fail
  refine (Tryz.bits_Mul64 a b (by omega) (by omega) _).mono ?_
  rintro e w1 ⟨rfl, rfl⟩
  generalize (a * b / 18446744073709551616 : Nat) = P at H ⊢
  generalize (a * b % 18446744073709551616 : Nat) = Q at H ⊢
  go_wp2_with fail
  refine (Tryz.bits_Mul64 c d (by omega) (by omega) _).mono ?_
  rintro e w1 ⟨rfl, rfl⟩
  generalize (c * d / 18446744073709551616 : Nat) = R at H ⊢
  generalize (c * d % 18446744073709551616 : Nat) = T at H ⊢
  go_wp2_with fail
  refine (compare_any _ _ _).mono ?_
  rintro e w2 ⟨rfl, rfl⟩
  go_wp2_with fail
  refine (compare_any _ _ _).mono ?_
  rintro e w2 ⟨rfl, rfl⟩
  go_wp2_with fail
  refine (or_any _ _ _ _ (boxed 0 rfl rfl) (boxed 1 rfl rfl)).mono ?_
  rintro e w2 ⟨rfl, rfl⟩
  go_wp2
  go_ret
  exact ⟨ret_int H.out, (by repeat (first | exact Ext.refl _ | assumption | apply Ext.alloc | apply Ext.drew | (refine Ext.trans ?_ (by assumption)) | (refine Ext.setNew ?_ (by simp <;> omega) _)))⟩
end Go.Proofs.YtknelhceaoblhaaGreat.Cmp
